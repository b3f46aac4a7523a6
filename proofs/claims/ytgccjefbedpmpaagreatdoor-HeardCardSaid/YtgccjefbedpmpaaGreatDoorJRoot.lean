import Derived.Test.YtgccjefbedpmpaaGreatDoorYBookM
import Derived.Test.YtgccjefbedpmpaaGreatDoorJParts
namespace Go.Proofs.YtgccjefbedpmpaaGreatDoor
open Go.RowKit Go.MuLone
set_option maxRecDepth 100000
set_option maxHeartbeats 8000000
variable {b : Nat} {cl : Int} {o : Opn} {ws : List Opn}
def Tr.H:Tr→Prop
 | ⟨none⟩=>True
 | ⟨some (o,rk,l,r)⟩=>rk=rkOf o.key∧(∀ x∈l.list,rkOf x.key≤rkOf o.key)∧(∀ x∈r.list,rkOf x.key<rkOf o.key)∧l.H∧r.H
theorem cut_mem {k:Int}:∀ {t:Tr} {x:Opn},(x∈(t.cut k).1.list→x∈t.list)∧(x∈(t.cut k).2.list→x∈t.list)
 | ⟨none⟩,_=>⟨id,id⟩
 | ⟨some (o,rk,l,r)⟩,x=>by
  have hl:=cut_mem (k:=k) (t:=l) (x:=x);have hr:=cut_mem (k:=k) (t:=r) (x:=x);unfold Tr.cut;split
  ·simp only [Tr.list,zd,qu];exact ⟨fun q=>q.via id (fun q=>q.via id hr.1),fun q=>Or.inr (Or.inr (hr.2 q))⟩
  ·simp only [Tr.list,zd,qu];exact ⟨fun q=>Or.inl (hl.1 q),fun q=>q.via hl.2 id⟩
theorem Tr.H.cut (k:Int):∀ {t:Tr},t.H→(t.cut k).1.H∧(t.cut k).2.H
 | ⟨none⟩,_=>⟨trivial,trivial⟩
 | ⟨some (o,rk,l,r)⟩,⟨h0,h1,h2,h3,h4⟩=>by
  have il:=Tr.H.cut k h3;have ir:=Tr.H.cut k h4;unfold Tr.cut;split
  ·exact ⟨⟨h0,h1,fun x hx=>h2 x (cut_mem.1 hx),h3,ir.1⟩,ir.2⟩
  ·exact ⟨il.1,h0,fun x hx=>h1 x (cut_mem.2 hx),h2,il.2,h4⟩
theorem with_mem {o:Opn} {rk:Int}:∀ {t:Tr} {x:Opn},x∈(t.with o rk).list→x=o∨x∈t.list
 | ⟨none⟩,x=>by simp [Tr.with,Tr.list]
 | ⟨some (o',rk',l,r)⟩,x=>by
  have hl:=with_mem (o:=o) (rk:=rk) (t:=l) (x:=x);have hr:=with_mem (o:=o) (rk:=rk) (t:=r) (x:=x);have hc:=cut_mem (k:=o.key) (t:=.node o' rk' l r) (x:=x)
  unfold Tr.with
  split
  ·intro q;rcases zd.1 q with q|q
   ·exact Or.inr (hc.1 q)
   ·exact (qu.1 q).via id hc.2
  ·split
   ·simp only [Tr.list,zd,qu];rintro (q|q|q)
    ·exact (hl q).via id Or.inl
    ·exact Or.inr (Or.inr (Or.inl q))
    ·exact Or.inr (Or.inr (Or.inr q))
   ·split
    ·simp only [Tr.list,zd,qu];rintro (q|q|q)
     ·exact Or.inr (Or.inl q)
     ·exact Or.inr (Or.inr (Or.inl q))
     ·exact (hr q).via id fun q=>Or.inr (Or.inr q)
    ·simp only [Tr.list,zd,qu];rintro (q|q|q)
     ·exact Or.inr (Or.inl q)
     ·exact Or.inl q
     ·exact Or.inr (Or.inr (Or.inr q))
theorem Tr.H.with {o:Opn}:∀ {t:Tr},t.H→ByKey t.list→(∀ x∈t.list,x.key≠o.key)→(t.with o (rkOf o.key)).H
 | ⟨none⟩,_,_,_=>⟨rfl,fun _ h=>(yr h).elim,fun _ h=>(yr h).elim,trivial,trivial⟩
 | ⟨some (o',rk',l,r)⟩,⟨h0,h1,h2,h3,h4⟩,hb,hn=>by
  obtain ⟨hl,hr,hlo,hro⟩:=node_by hb;have il:=Tr.H.with h3 hl (fun x hx=>hn x (by simp [Tr.list,hx]));have ir:=Tr.H.with h4 hr (fun x hx=>hn x (by simp [Tr.list,hx]));have hno:o'.key≠o.key:=hn o' (by simp [Tr.list]);subst h0;have hc:=Tr.H.cut o.key (t:=.node o' (rkOf o'.key) l r) ⟨rfl,h1,h2,h3,h4⟩;have cl:=cut_list o.key _ hb
  unfold Tr.with
  split
  ·rename_i hB
   have hB:if rkOf o.key=rkOf o'.key then o'.key<o.key else rkOf o'.key<rkOf o.key:=by
    have hB:(if rkOf o.key=rkOf o'.key then decide (o'.key<o.key) else decide (rkOf o'.key<rkOf o.key))=true:=hB;split at hB<;>rename_i e
    ·rw [if_pos e];exact of_decide_eq_true hB
    ·rw [if_neg e];exact of_decide_eq_true hB
   have le:rkOf o'.key≤rkOf o.key:=by split at hB<;>omega
   refine ⟨rfl,fun x hx=>?_,fun x hx=>?_,hc.1,hc.2⟩
   ·have hx:=cut_mem.1 hx;simp only [Tr.list,zd,qu] at hx;rcases hx with q|rfl|q
    ·have:=h1 x q;omega
    ·exact le
    ·have:=h2 x q;omega
   ·rw [cl.2] at hx;obtain ⟨hx,hk⟩:=qo.1 hx;simp only [Bool.not_eq_true',decide_eq_false_iff_not] at hk;simp only [Tr.list,zd,qu] at hx;rcases hx with q|rfl|q
    ·have:=h1 x q;have:=hlo x q;split at hB<;>omega
    ·split at hB<;>omega
    ·have:=h2 x q;omega
  ·rename_i hB
   have hB:if rkOf o.key=rkOf o'.key then ¬ o'.key<o.key else ¬ rkOf o'.key<rkOf o.key:=by
    have hB:¬ (if rkOf o.key=rkOf o'.key then decide (o'.key<o.key) else decide (rkOf o'.key<rkOf o.key))=true:=hB;split at hB<;>rename_i e
    ·rw [if_pos e];simpa using hB
    ·rw [if_neg e];simpa using hB
   split
   ·refine ⟨rfl,fun x hx=>?_,h2,il,h4⟩;rcases with_mem hx with rfl|q
    ·split at hB<;>omega
    ·exact h1 x q
   ·split
    ·refine ⟨rfl,h1,fun x hx=>?_,h3,ir⟩;rcases with_mem hx with rfl|q
     ·split at hB<;>omega
     ·exact h2 x q
    ·omega
theorem takeL_H:∀ (n:Nat) {t:Tr} {ws:List Opn},t.H→BookOk t.list ws→(takeL n t ws).1.H
 | 0,_,_,h,_=>h
 | n+1,t,ws,h,hk=>by
  unfold takeL;split
  ·exact h
  ·rename_i hs
   cases e:ws.findIdx? (rdy t) with
   | none=>exact h
   | some i=>
    obtain ⟨h1,h2,-⟩:=zx.1 e;have e2:getO ws[i]?=ws[i]:=by rw [qk h1];rfl
    have hn:∀ x∈t.list,x.key≠(getO ws[i]?).key:=fun x hx=>by rw [e2];exact hk.apart x hx _ (qn h1)
    have hi:ws.findIdx? (readyL t.list)=some i:=by rw [← rdy_list hk.set.by'];exact e
    have hN:=hk.next (by rw [Tr.list_len];exact hs) hi;rw [← with_list _ (rkOf (getO ws[i]?).key) t hk.set.by' hn] at hN;exact takeL_H n (h.with hk.set.by' hn) hN
theorem writeM_H {t:Tr} (hH:t.H) (h:BookOk t.list ws) (hcl:1≤cl∧cl≤1048575) (ho:OwnRf t.list o):(writeM cl t ws o).2.2.1.H:=by
 have e1:noRoom cl t=roomL cl t.list:=by unfold noRoom roomL;rw [Tr.list_len]
 unfold writeM;rw [e1]
 cases hr:roomL cl t.list with
 | true=>exact hH
 | false=>
  have hp:=own_put h hcl hr ho;have hn:=own_key (o:=o) h.set hr;have hl:=with_list (ownOf cl t o) (rkOf (ownOf cl t o).key) t h.set.by' hn
  have e2:ownOf cl t o=ownL cl t.list o:=rfl;rw [e2] at hl;rw [← hl] at hp;exact takeL_H _ (hH.with h.set.by' hn) hp
theorem insM_H {t:Tr} {at' ch:Int} (hH:t.H) (h:BookOk t.list ws) (hcl:1≤cl∧cl≤1048575):(insM cl t ws (visR t.list) at' ch).2.2.1.H:=by
 unfold insM;by_cases h1:at'<0∨((visR t.list).length:Int)<at'
 ·rw [if_pos h1];exact hH
 ·rw [if_neg h1]
  cases h2:okChar ch with
  | false=>exact hH
  | true=>exact writeM_H hH h hcl (ins_own h1 h2)
theorem delM_H {t:Tr} {at':Int} (hH:t.H) (h:BookOk t.list ws) (hcl:1≤cl∧cl≤1048575):(delM cl t ws (visR t.list) at').2.2.1.H:=by
 unfold delM;by_cases h1:at'<0∨((visR t.list).length:Int)≤at'
 ·rw [if_pos h1];exact hH
 ·rw [if_neg h1];exact writeM_H hH h hcl (del_own h.set h1)
theorem addM_H {t:Tr} (hH:t.H) (h:BookOk t.list ws):(addM t ws o).2.1.H:=by
 unfold addM;split
 ·exact hH
 ·rename_i h0;split
  ·exact hH
  ·rename_i h1;split
   ·rename_i h2;split
    ·exact hH
    ·rename_i h3;simp only [Bool.not_eq_false] at h0;simp only [Bool.not_eq_true] at h1;obtain ⟨k1,k2⟩:=jf.1 h1
     have k1:t.list.any (fun x=>decide (x.key=o.key))=false:=by
      rw [get_list _ t h.set.by',List.isSome_find?] at k1;exact k1
     have hp:=add_put h h0 (by rw [k1,k2];rfl) (by rw [Tr.list_len];exact h3) (by rw [← rdy_list h.set.by'];exact h2);have hn:=any_not k1;rw [← with_list o (rkOf o.key) t h.set.by' hn] at hp;exact takeL_H _ (hH.with h.set.by' hn) hp
   ·split
    ·exact hH
    ·exact hH
theorem ptr2 (w:World) (p q:Option Addr) (T R:TypeId):Bel w ((w.alloc (.cells #[.pointer p] T)).alloc (.cells #[.pointer q] R))∧RowIs ((w.alloc (.cells #[.pointer p] T)).alloc (.cells #[.pointer q] R)) (w.heap.size+1) R 1 (fun _=>.pointer q):=by
 have b1:Bel w (w.alloc (.cells #[.pointer p] T)):=(qj _ _).alloc (qb _) _;have r2:=RowIs.last (w:=w.alloc (.cells #[.pointer p] T)) (t:=R) (f:=fun _=>.pointer q) (n:=1) (cs:=#[.pointer q]) rfl rfl;have hz1:(w.alloc (.cells #[.pointer p] T)).heap.size=w.heap.size+1:=by simp
 rw [hz1] at r2;exact ⟨b1.alloc b1.size _,r2⟩
theorem tRange_any (lo hi:Int) (t:Tr) (v:Value) (w:World) (hv:IsTr w v t) (ht:t.T):Cs 240 #[.agg #[v],U6 lo,U6 hi] w fun e w'=>(∃ p,e=.returned (.agg #[p])∧IsTr w' p ((t.cut lo).2.cut hi).1)∧Bel w w':=by
 obtain ⟨pa,rfl⟩:=hv.ptr;have H1:Hid (∀ W,Bel w W→Cs 277 #[.pointer pa,U6 lo] W fun e w'=>(∃ p q,e=.returned (.tuple #[p,q])∧IsTr w' p (t.cut lo).1∧IsTr w' q (t.cut lo).2)∧Bel W w'):=fun W hW=>cut_any lo t _ W (hv.below hW) ht;have H2:Hid (∀ q W,IsTr W q (t.cut lo).2→Cs 277 #[q,U6 hi] W fun e w'=>(∃ p r,e=.returned (.tuple #[p,r])∧IsTr w' p ((t.cut lo).2.cut hi).1∧IsTr w' r ((t.cut lo).2.cut hi).2)∧Bel W w'):=fun q W h=>cut_any hi _ q W h (Tr.cut_T ht).2;have H0:Hid (Bel w _∧RowIs _ (w.heap.size+1) _ 1 _):=ptr2 w pa none 101 101;generalize (t.cut lo)=tc at *;generalize (tc.2.cut hi)=td at *;clear hv ht;go_enter Tryz.func240,Tryz.ntmps240
 go_wp2_with (first
  | (go_at_call 277;have hq:=HT;clear hq;refine (H2.out _ _ HT.out).mono ?_;rintro e w2 ⟨⟨p2,q2,rfl,hp2,hq2⟩,hb2⟩;obtain ⟨pb,rfl⟩:=hp2.ptr;have HB:Hid (Bel w w2∧IsTr w2 (.pointer pb) td.1):=⟨HA.out.1.trans (hb2.mono HA.out.1.size),hp2⟩;have R2:=HA.out.2.below hb2 HA.out.2.lt;clear hp2 hq2 hb2)
  | (go_at_call 277;refine (H1.out _ H0.out.1).mono ?_;rintro e w1 ⟨⟨p1,q1,rfl,hp1,hq1⟩,hb1⟩;have HT:Hid (IsTr w1 q1 tc.2):=hq1;have HA:Hid (Bel w w1∧RowIs w1 (w.heap.size+1) 101 1 (fun _=>.pointer none)):=⟨H0.out.1.trans (hb1.mono H0.out.1.size),H0.out.2.below hb1 H0.out.2.lt⟩;clear hp1 hq1 hb1)
  | (refine wpList_store_row rfl 101 (.tmp 6) (.tmp 25) rfl (w.heap.size+1) (rowOf 1 fun _=>.pointer pb) rfl rfl _ _ R2 (by rw [rowOf_size];exact Qg) (by simp only [rowOf_size]) (Qd pb) ?_))
 exact bodyPost_ret (results_cell_row Tryz.results240 _ _ (w.heap.size+1) 101 _ (0,0) _ rfl (R2.setRow (fun _=>.pointer pb)) Tryz.underlying101 rfl (by rw [rowOf_size];exact Qg)) rfl ⟨⟨_,rfl,Qr R2 (by decide) _ HB.out.2⟩,kn HB.out.1 (by omega) _⟩
theorem sRange_any (lo hi:Int) (t:Tr) (v:Value) (w:World) (hv:IsTr w v t) (ht:t.T):Cs 179 #[.agg #[v],U6 lo,U6 hi] w fun e w'=>(∃ p,e=.returned (.agg #[p])∧IsTr w' p ((t.cut lo).2.cut hi).1)∧Bel w w':=by
 obtain ⟨pa,rfl⟩:=hv.ptr;have H1:Hid (∀ W,Bel w W→Cs 240 #[.agg #[.pointer pa],U6 lo,U6 hi] W fun e w'=>(∃ p,e=.returned (.agg #[p])∧IsTr w' p ((t.cut lo).2.cut hi).1)∧Bel W w'):=fun W hW=>tRange_any lo hi t _ W (hv.below hW) ht;have H0:Hid (Bel w _∧RowIs _ (w.heap.size+1) _ 1 _):=ptr2 w pa none 103 103;generalize ((t.cut lo).2.cut hi)=td at *;clear hv ht;go_enter Tryz.func179,Tryz.ntmps179
 go_wp2_with (first
  | (go_at_call 240;refine (H1.out _ H0.out.1).mono ?_;rintro e w1 ⟨⟨p1,rfl,hp1⟩,hb1⟩;obtain ⟨pb,rfl⟩:=hp1.ptr;have HB:Hid (Bel w w1∧IsTr w1 (.pointer pb) td.1):=⟨H0.out.1.trans (hb1.mono H0.out.1.size),hp1⟩;have R2:=H0.out.2.below hb1 H0.out.2.lt;clear hp1 hb1)
  | (refine wpList_store_row rfl 103 (.tmp 6) (.tmp 12) rfl (w.heap.size+1) (rowOf 1 fun _=>.pointer pb) rfl rfl _ _ R2 (by rw [rowOf_size];exact infoSet) (by simp only [rowOf_size]) (Qd pb) ?_))
 exact bodyPost_ret (results_cell_row Tryz.results179 _ _ (w.heap.size+1) 103 _ (0,0) _ rfl (R2.setRow (fun _=>.pointer pb)) Tryz.underlying103 rfl (by rw [rowOf_size];exact infoSet)) rfl ⟨⟨_,rfl,Qr R2 (by decide) _ HB.out.2⟩,kn HB.out.1 (by omega) _⟩
theorem bRange_any (lo hi:Int) (b:Nat) (st cl ss:Int) (top vW vK:Value) (t:Tr) (w:World) (h:RowIs w b 118 7 (rep7 st cl top vW ss vK)) (hI:IsTr w top t) (ht:t.T):Cs 104 #[(pt b 2),U6 lo,U6 hi] w fun e w'=>(∃ p,e=.returned (.agg #[p])∧IsTr w' p ((t.cut lo).2.cut hi).1)∧Bel w w':=by
 obtain ⟨p0,rfl⟩:=hI.ptr;have c3:w.cell? (Ad b 3)=some (.pointer p0):=h.cell (j:=3) (by omega);have b1:Bel w (w.alloc (.cells #[.pointer none] 103)):=(qj _ _).alloc (qb _) _;have r1:RowIs (w.alloc (.cells #[.pointer none] 103)) w.heap.size 103 1 (fun _=>.pointer none):=RowIs.last rfl rfl;have HS:Hid (Calls _ _ _ _ _):=sRange_any lo hi t _ _ (hI.below b1) ht;have H0:Hid (Bel w (w.alloc (.cells #[.pointer none] 103))∧RowIs (w.alloc (.cells #[.pointer none] 103)) w.heap.size 103 1 (fun _=>.pointer none)):=⟨b1,r1⟩;have c3':(w.alloc (.cells #[.pointer none] 103)).cell? (Ad b 3)=some (.pointer p0):=(h.alloc _).cell (j:=3) (by omega);generalize ((t.cut lo).2.cut hi)=td at *;clear h hI ht b1 r1 c3;go_enter Tryz.func104,Tryz.ntmps104
 go_wp2_with (first
  | (go_at_call 179;refine HS.out.mono ?_;rintro e w1 ⟨⟨p1,rfl,hp1⟩,hb1⟩;obtain ⟨pb,rfl⟩:=hp1.ptr;have HB:Hid (Bel w w1∧IsTr w1 (.pointer pb) td.1):=⟨H0.out.1.trans (hb1.mono H0.out.1.size),hp1⟩;have R2:=H0.out.2.below hb1 H0.out.2.lt;clear hp1 hb1)
  | (refine wpList_store_row rfl 103 (.tmp 6) (.tmp 13) rfl w.heap.size (rowOf 1 fun _=>.pointer pb) rfl rfl _ _ R2 (by rw [rowOf_size];exact infoSet) (by simp only [rowOf_size]) (Qd pb) ?_))
 exact bodyPost_ret (results_cell_row Tryz.results104 _ _ w.heap.size 103 _ (0,0) _ rfl (R2.setRow (fun _=>.pointer pb)) Tryz.underlying103 rfl (by rw [rowOf_size];exact infoSet)) rfl ⟨⟨_,rfl,Qr R2 (by decide) _ HB.out.2⟩,kn HB.out.1 (by omega) _⟩
theorem rangeNow_any (lo hi:Int) (b:Nat) (cl ss:Int) (top vW vK:Value) (t:Tr) (w:World) (h:RowIs w b 118 7 (rep7 0 cl top vW ss vK)) (hI:IsTr w top t) (ht:t.T):Cs 56 #[(pt b 0),U6 lo,U6 hi] w fun e w'=>(∃ p,e=.returned (.agg #[p])∧IsTr w' p ((t.cut lo).2.cut hi).1)∧RowIs w' b 118 7 (rep7 0 cl top vW ss vK)∧But (fun x=>x=b) w w':=by
 have hbl:=h.lt;have a0:(w.alloc (.cells #[.pointer none] 103)).cell? (Ad b 0)=some (I3 0):=(h.alloc _).cell (j:=0) (by omega);have g0:=(h.alloc (.cells #[.pointer none] 103)).free 0;have hz:(w.setCell (Ad b 0) (I3 1)).heap.size=w.heap.size:=by simp [World.setCell]
 have b1:But (fun x=>x=b) w ((w.setCell (Ad b 0) (I3 1)).alloc (.cells #[.pointer none] 103)):=(But.set b 0 _).trans (But.below (kq _ _));have r1:RowIs ((w.setCell (Ad b 0) (I3 1)).alloc (.cells #[.pointer none] 103)) w.heap.size 103 1 (fun _=>.pointer none):=RowIs.last (w:=w.setCell (Ad b 0) (I3 1)) (n:=1) (f:=fun _=>.pointer none) (cs:=#[.pointer none]) hz.symm rfl;have h1:=(rep_lock h).alloc (.cells #[.pointer none] 103);have hI1:=(Qf h (by decide) (But.set b 0 (I3 1)) hI).below (kq _ (.cells #[.pointer none] 103));have HW:=vm (bRange_any lo hi b 1 cl ss top vW vK t _ h1 hI1 ht);have H1:Hid (RowIs _ b 118 7 (rep7 1 cl top vW ss vK)∧RowIs _ w.heap.size 103 1 (fun _=>.pointer none)∧But (fun x=>x=b) w _):=⟨h1,r1,b1⟩;generalize ((t.cut lo).2.cut hi)=td at *;clear h h1 hI hI1 ht b1 r1;go_enter_defers Tryz.func56,Tryz.ntmps56
 go_wp2_with (first
  | (go_at_call 49;refine (lock_free Qk (Ad b 0) _ a0 g0).mono ?_;rintro e w' ⟨rfl,rfl⟩)
  | (go_at_call 104;refine HW.out.mono ?_;rintro e w2 ⟨⟨p1,rfl,hp1⟩,hb2⟩;obtain ⟨pb,rfl⟩:=hp1.ptr;have h2:=H1.out.1.below hb2 H1.out.1.lt;have R2:=H1.out.2.1.below hb2 H1.out.2.1.lt;have HO:Hid (IsTr w2 (.pointer pb) td.1∧But (fun x=>x=b) w w2):=⟨hp1,H1.out.2.2.trans (But.below hb2)⟩;clear hp1 hb2)
  | (refine wpList_store_row rfl 103 (.tmp 6) (.tmp 19) rfl w.heap.size (rowOf 1 fun _=>.pointer pb) rfl rfl _ _ R2 (by rw [rowOf_size];exact infoSet) (by simp only [rowOf_size]) (Qd pb) ?_))
 have R3:=R2.setRow (fun _=>.pointer pb);have hne:w.heap.size≠b:=by omega
 have h3:=h2.setRowOther hne (rowOf 1 fun _=>.pointer pb);have t3:=Qr R2 (by decide) (rowOf 1 fun _=>.pointer pb) HO.out.1;refine leaves_cons (f:=50) (args:=#[(pt b 0)]) (by simp) (by simp [go_sem]) ?_;refine (unlock_deferred Qk (Ad b 0) .returning _ (h3.cell (j:=0) (by omega)) (h3.free 0)).mono ?_;rintro e u' w'' ⟨rfl,rfl,rfl⟩;have R4:=R3.setOther (a:=(Ad b 0)) (fun e=>hne e.symm) (I3 0);refine ⟨_,results_cell_row Tryz.results56 _ _ w.heap.size 103 _ (0,0) _ rfl R4 Tryz.underlying103 rfl (by rw [rowOf_size];exact infoSet),⟨_,rfl,Qf h3 (by decide) (But.set b 0 _) t3⟩,rep_unlock h3,?_⟩;exact (HO.out.2.putRow (qb _) _).trans (But.set b 0 _)
def Tr.rng (lo hi:Int) (t:Tr):Tr:=((t.cut lo).2.cut hi).1
theorem rng_mem {lo hi:Int} {t:Tr} {x:Opn} (h:x∈(t.rng lo hi).list):x∈t.list:=cut_mem.2 (cut_mem.1 h)
theorem same_below {w w':World} {n:Nat} {T:TypeId} {f:Nat→Value} (h:But (fun x=>x=b) w w') (h1:RowIs w b T n f) (h2:RowIs w' b T n f):Bel w w':=
 ⟨h.os,h.tape,h.output,h.size,fun i hi=>by
  by_cases e:i=b
  ·subst e;exact Eq.trans h2 (Eq.symm h1)
  ·exact h.block i hi e⟩
theorem root_any (lo hi:Int) (b:Nat) (cl ss:Int) (top vW vK:Value) (t:Tr) (w:World) (h:RowIs w b 118 7 (rep7 0 cl top vW ss vK)) (hI:IsTr w top t) (ht:t.T) (hE:Env w) (hW:∀ x∈t.list,OpW x∧(x.kd=1∨x.kd=2)) :
  Cs 27 #[(pt b 0),U6 lo,U6 hi] w fun e w'=>e=.returned (.agg #[U8 (dig (strOfNums (t.rng lo hi).txt) 0),U8 (dig (strOfNums (t.rng lo hi).txt) 1),U8 (dig (strOfNums (t.rng lo hi).txt) 2)])∧Bel w w':=by
 have hWr:(t.rng lo hi).W:=Tr.W_of fun x hx=>hW x (rng_mem hx);have b1:Bel w (w.alloc (.cells #[U8 0,U8 0,U8 0] 50)):=kq _ _;have r1:=RowIs.new w 50 3 fun _=>U8 0;have h1:=h.alloc (.cells #[U8 0,U8 0,U8 0] 50);have HC:=kr (rangeNow_any lo hi b cl ss top vW vK t (w.alloc (.cells #[U8 0,U8 0,U8 0] 50)) h1 (hI.below b1) ht);have HT:Hid (∀ p W,IsTr W p (t.rng lo hi)→Env W→Cs 55 #[.agg #[p]] W fun e w'=>e=.returned (.agg #[U8 (dig (strOfNums (t.rng lo hi).txt) 0),U8 (dig (strOfNums (t.rng lo hi).txt) 1),U8 (dig (strOfNums (t.rng lo hi).txt) 2)])∧Bel W w'):=fun p W i1 i2=>of_gen _ _ W i1 i2 fun W2 hW2=>text_any _ _ W2 (i1.below hW2) hWr (i2.below hW2);have HB:=kr (qd b1 (qd h1 (qd hE r1)));clear h hI ht hE hW hWr b1 r1 h1
 change Hid (Calls _ _ _ _ fun e w'=>(∃ p,e=.returned (.agg #[p])∧IsTr w' p (t.rng lo hi))∧_) at HC
 generalize t.rng lo hi=tr at *;generalize strOfNums tr.txt=s at *;go_enter Tryz.func27,Tryz.ntmps27
 go_wp2_with (first
  | (go_at_call 56;refine HC.out.mono ?_;rintro e w1 ⟨⟨p,rfl,hp⟩,hr,hbt⟩;obtain ⟨pa,rfl⟩:=hp.ptr;have hb1:=same_below hbt HB.out.2.1 hr;have HP:=kr (qd (HB.out.1.trans (hb1.mono HB.out.1.size)) hp);have R1:=HB.out.2.2.2.below hb1 HB.out.2.2.2.lt;clear hp hr hbt hb1)
  | (go_at_call 55;refine (HT.out _ _ HP.out.2 (HB.out.2.2.1.below HP.out.1)).mono ?_;rintro e w2 ⟨rfl,hb2⟩;have B2:=HP.out.1.trans (hb2.mono HP.out.1.size);have R2:=R1.below hb2 R1.lt)
  | (refine wpList_store_row rfl 50 (.tmp 6) (.tmp 11) rfl w.heap.size _ rfl rfl _ _ R2 infoDg (by rw [rowOf_size];rfl) (by simp [Value.oneCell']) ?_))
 exact bodyPost_ret (v:=.agg #[U8 (dig s 0),U8 (dig s 1),U8 (dig s 2)]) (results_cell_row Tryz.results27 _ _ w.heap.size 50 _ (0,0) _ rfl (R2.setRow (fun j=>match j with|0=>U8 (dig s 0)|1=>U8 (dig s 1)|_=>U8 (dig s 2))) Tryz.underlying50 rfl infoDg) rfl ⟨rfl,kn B2 (by omega) _⟩
theorem getO_at {os:List Opn} {j:Nat} (h:j<os.length):getO os[j]?=os[j]:=by rw [qk h];rfl
theorem mid_one {A B:List Opn} (hA:∀ x∈A,rkOf x.key≤rkOf o.key) (hB:∀ x∈B,rkOf x.key<rkOf o.key) (hb:b<(A++o::B).length) (h1:∀ j,j<(A++o::B).length→rkOf (getO (A++o::B)[j]?).key≤rkOf (getO (A++o::B)[b]?).key) (h2:∀ j,b<j→j<(A++o::B).length→rkOf (getO (A++o::B)[j]?).key<rkOf (getO (A++o::B)[b]?).key):b=A.length:=by
 have hm:A.length<(A++o::B).length:=by simp
 have em:getO (A++o::B)[A.length]?=o:=by rw [getO_at hm];simp
 rcases kl b A.length with q|q|q
 ·have k:=h2 _ q hm;rw [em] at k;have e:getO (A++o::B)[b]?=A[b]:=by rw [getO_at hb,jz q]
  rw [e] at k;have:=hA _ (qn q);omega
 ·exact q
 ·have k:=h1 _ hm;rw [em] at k
  have hx:getO (A++o::B)[b]?∈B:=by
   obtain ⟨d,rfl⟩:∃ d,b=A.length+(d+1):=⟨b-A.length-1,by omega⟩;rw [j9 (by omega),show A.length+(d+1)-A.length=d+1 by omega,List.getElem?_cons_succ];have hd:d<B.length:=by simp at hb;omega
   rw [getO_at hd];exact qn hd
  have:=hB _ hx;omega

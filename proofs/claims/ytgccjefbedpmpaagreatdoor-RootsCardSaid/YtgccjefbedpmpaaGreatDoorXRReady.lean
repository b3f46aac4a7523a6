import Derived.Test.YtgccjefbedpmpaaGreatDoorXRTold
import Derived.Laws.Cover4
namespace Go.Proofs.YtgccjefbedpmpaaGreatDoor
open Go.RowKit
set_option maxRecDepth 100000
set_option maxHeartbeats 8000000
theorem SetOk.keyT {os:List Opn} (h:SetOk os):∀ x∈os,KeyT x:=fun x hx=>by
 obtain ⟨h1,h2,-⟩:=ok_nums (h.ok x hx)
 exact ⟨by omega,by omega⟩
theorem refReady_any (b:Nat) (cl:Int) (vL vW:Value) (ss:Int) (dn:Bool) (vK:Value) (os ws:List Opn) (o:Opn) (w:World) (H:RefIs w b cl vL vW ss dn vK os ws) (hs:SetOk os) (ho:o.ok=true) :
  Calls Tryz.prog 138 #[.pointer (some ⟨b,0,none⟩),.agg #[.int .i64 o.kd,.int .u32 o.cl,.int .u32 o.ck,.int .u32 o.st,.int .u64 o.rf,.int .i32 o.ch]] w fun e w'=>e=.returned (.bool (readyL os o))∧Below w.heap.size w w':=by
 obtain ⟨aL,cL,rfl⟩:=ownK_form H.hL
 have hn:=hs.len
 have hok:=ok_nums ho
 have HRf:=hid2 H
 have HTh:Hid (∀ W k,Below w.heap.size w W→Calls Tryz.prog 136 #[.slice aL os.length cL,.int .u64 k] W fun e w'=>e=.returned (.int .i64 (fIdx os k))∧Below W.heap.size W w'):=fun W k hW=>there_any os aL cL k W (OwnK.is (HRf.out.below hW).hL) hs.keyT (by omega)
 have HS:=hid2 (And.intro hs ho)
 have HK:Hid (KeyT o):=⟨by omega,by omega⟩
 have H0:=hid2 (BoxS.new w o)
 clear H hs ho
 go_enter Tryz.func138,Tryz.ntmps138
 go_wp2_with fail
 go_loopw [5] (fun cv wr=>∃ c:Int,1≤c∧cv=.int .u32 c∧(c≤o.ck∨c=1)∧Hid (∀ c',1≤c'→c'<c→0≤fIdx os (o.cl*1048576+c'))∧Hid (BoxS w wr o)) (fun cv _=>(o.ck-intOf cv).toNat)
 case atStart=>exact ⟨1,Int.le_refl _,rfl,Or.inr rfl,fun c' h1 h2=>by omega,H0⟩
 case round=>
  obtain ⟨c,hc1,rfl,hc2,HLw,HB⟩:=hrel
  clear H0
  obtain ⟨q0,q1,q2,q3,q4,q5⟩:=boxCells HB.out.box
  rcases Int.lt_or_le c o.ck with hlt|hge
  ·have HCk:Hid (0≤c∧c<4294967296):=⟨by omega,by omega⟩
   go_wp2_with fail
   clear q0 q1 q2 q3 q4 q5
   refine wp_region_held_drew (S:=fun W=>BoxS w W o) (by kernel_rfl) (HB.out.kept (Below.refl _ _).drew) (fun hHeld=>?_)
   generalize World.drew _=wD at hHeld ⊢
   rcases Int.lt_or_le (fIdx os (o.cl*1048576+c)) 0 with hfx|hfx
   ·have HFx:=hid2 hfx
    have HNo:=hid2 (ready_lack HS.out.1 HS.out.2 hc1 hlt hfx)
    clear hfx
    refine tk0 0 13 ?_
    refine tk0 1 14 ?_
    refine tk0 2 15 ?_
    refine tkf 3 16 (fun _ h=>(HRf.out.below h.below).L) ?_
    refine tk0 4 17 ?_
    refine tkf 5 18 (fun _ h=>boxCells h.box) ?_
    refine tk0 6 19 ?_
    refine tk0 7 20 ?_
    refine rd 8 (some 21) rfl (fun K hK=>?_)
    go_simp
    refine (keyG _ _ _ _ _ _ HK.out.1 HCk.out _).mono ?_
    rintro e w2 ⟨rfl,hb2⟩
    refine hK.out _ _ (hHeld.kept hb2) (fun hHeld=>?_)
    clear hK K hb2
    refine rd 9 (some 22) rfl (fun K hK=>?_)
    go_simp
    refine (HTh.out _ _ hHeld.below).mono ?_
    rintro e w3 ⟨rfl,hb3⟩
    refine hK.out _ _ (hHeld.kept hb3) (fun hHeld=>?_)
    clear hK K hb3
    refine tk0 10 23 ?_
    refine wdn ?_
    have hlt0:=HFx.out
    go_wp2_with fail
    go_ret
    exact ⟨by rw [HNo.out];rfl,hHeld.below⟩
   ·have HFx:=hid2 hfx
    clear hfx
    refine tk0 0 13 ?_
    refine tk0 1 14 ?_
    refine tk0 2 15 ?_
    refine tkf 3 16 (fun _ h=>(HRf.out.below h.below).L) ?_
    refine tk0 4 17 ?_
    refine tkf 5 18 (fun _ h=>boxCells h.box) ?_
    refine tk0 6 19 ?_
    refine tk0 7 20 ?_
    refine rd 8 (some 21) rfl (fun K hK=>?_)
    go_simp
    refine (keyG _ _ _ _ _ _ HK.out.1 HCk.out _).mono ?_
    rintro e w2 ⟨rfl,hb2⟩
    refine hK.out _ _ (hHeld.kept hb2) (fun hHeld=>?_)
    clear hK K hb2
    refine rd 9 (some 22) rfl (fun K hK=>?_)
    go_simp
    refine (HTh.out _ _ hHeld.below).mono ?_
    rintro e w3 ⟨rfl,hb3⟩
    refine hK.out _ _ (hHeld.kept hb3) (fun hHeld=>?_)
    clear hK K hb3
    refine tk0 10 23 ?_
    refine wdn ?_
    have hge0:=HFx.out
    go_wp2_with fail
    go_roundw
    case rel=>exact ⟨c+1,by omega,by go_num,Or.inl (by omega),(fun c' h1 h2=>(by
     rcases Int.lt_or_le c' c with q|q
     ·exact HLw.out c' h1 q
     ·have e:c'=c:=by omega
      rw [e];exact HFx.out):Hid _),hid2 hHeld⟩
    case measure=>simp [intOf];omega
  ·have HRy:=hid2 (ready_full HS.out.1 fun c' h1 h2=>HLw.out c' h1 (by omega))
   by_cases hr0:o.rf=0
   ·have HRd:Hid (readyL os o=true):=by show _=_;rw [HRy.out,decide_eq_true hr0];rfl
    go_wp2_with fail
    go_ret
    exact ⟨by rw [HRd.out];rfl,HB.out.below⟩
   ·go_wp2_with fail
    clear q0 q1 q2 q3 q4 q5
    refine wp_region_held_drew (S:=fun W=>BoxS w W o) (by kernel_rfl) (HB.out.kept (Below.refl _ _).drew) (fun hHeld=>?_)
    generalize World.drew _=wD at hHeld ⊢
    have hr0':=decide_eq_false hr0
    rcases Int.lt_or_le (fIdx os o.rf) 0 with hfx|hfx
    ·have HRd:Hid (readyL os o=false):=by show _=_;rw [HRy.out,hr0',decide_eq_false (show ¬ 0≤fIdx os o.rf by omega)];rfl
     refine tk0 0 27 ?_
     refine tk0 1 28 ?_
     refine tk0 2 29 ?_
     refine tkf 3 30 (fun _ h=>(HRf.out.below h.below).L) ?_
     refine tk0 4 31 ?_
     refine tkf 5 32 (fun _ h=>boxCells h.box) ?_
     refine rd 6 (some 33) rfl (fun K hK=>?_)
     go_simp
     refine (HTh.out _ _ hHeld.below).mono ?_
     rintro e w3 ⟨rfl,hb3⟩
     refine hK.out _ _ (hHeld.kept hb3) (fun hHeld=>?_)
     clear hK K hb3
     refine rdg 7 (some 6) ?_
     refine wdn ?_
     have HB8:=hid2 hHeld
     clear hHeld
     rw [show fIdx os o.rf=-1 by have:=(fIdx_ge (os:=os) (k:=o.rf)).1;omega]
     go_wp2_with fail
     refine wp_region_held_drew (S:=fun W=>BoxS w W o) (by kernel_rfl) (HB8.out.kept (Below.refl _ _).drew) (fun hHeld=>?_)
     generalize World.drew _=wE at hHeld ⊢
     refine tk0 0 34 ?_
     refine tk0 1 35 ?_
     refine tk0 2 36 ?_
     refine tku 3 37 ?_
     refine tku 4 38 ?_
     refine tku 5 39 ?_
     refine tku 6 40 ?_
     refine tku 7 41 ?_
     refine tku 8 42 ?_
     refine tku 9 43 ?_
     refine tku 10 44 ?_
     refine tku 11 45 ?_
     refine tku 12 46 ?_
     refine tk0 13 47 ?_
     refine tk0 14 48 ?_
     refine tku 15 49 ?_
     refine tku 16 50 ?_
     refine tku 17 51 ?_
     refine tku 18 52 ?_
     refine tku 19 53 ?_
     refine tku 20 54 ?_
     refine tku 21 55 ?_
     refine tku 22 56 ?_
     refine tku 23 57 ?_
     refine tku 24 58 ?_
     refine tku 25 59 ?_
     refine tku 26 60 ?_
     refine tk0 27 61 ?_
     refine rdg 28 (some 4) ?_
     refine wdn ?_
     go_wp2_with fail
     go_ret
     exact ⟨by rw [HRd.out];rfl,hHeld.below⟩
    ·obtain ⟨i,hix,hil,-⟩:=fIdx_get hfx
     have HIx:=hid2 hix
     have li:(i:Int)<(os.length:Int):=by omega
     rw [hix,decide_eq_true (show (0:Int)≤(i:Int) by omega),Int.toNat_natCast,List.getElem?_eq_getElem hil,hr0'] at HRy
     clear hfx hix
     rcases HRf.out.hL.2 with ⟨e,e1⟩|⟨g,cap,cur,e,_⟩
     ·omega
     cases e
     have HKc:Hid (∀ W,Below w.heap.size w W→W.cell? ⟨g,i*8,none⟩=some (.int .i64 os[i].kd)∧W.cell? ⟨g,i*8+1,none⟩=some (.int .u32 os[i].cl)∧W.cell? ⟨g,i*8+2,none⟩=some (.int .u32 os[i].ck)∧W.cell? ⟨g,i*8+3,none⟩=some (.int .u32 os[i].st)∧W.cell? ⟨g,i*8+4,none⟩=some (.int .u64 os[i].rf)∧W.cell? ⟨g,i*8+5,none⟩=some (.int .i32 os[i].ch)):=fun W hW=>by
      have h:=((OwnK.at0 HRf.out.hL).below hW).cells hil
      simp only [Nat.zero_add] at h
      exact h
     by_cases hkd:os[i].kd=1
     ·have hkd':(os[i].kd==1)=true:=by simpa using hkd
      have HRd:Hid (readyL os o=decide (os[i].st<o.st)):=by
       show _=_
       rw [HRy.out]
       show (false||(true&&(decide (os[i].kd=1)&&decide (os[i].st<o.st))))=_
       rw [decide_eq_true hkd]
       rfl
      refine tk0 0 27 ?_
      refine tk0 1 28 ?_
      refine tk0 2 29 ?_
      refine tkf 3 30 (fun _ h=>(HRf.out.below h.below).L) ?_
      refine tk0 4 31 ?_
      refine tkf 5 32 (fun _ h=>boxCells h.box) ?_
      refine rd 6 (some 33) rfl (fun K hK=>?_)
      go_simp
      refine (HTh.out _ _ hHeld.below).mono ?_
      rintro e w3 ⟨rfl,hb3⟩
      refine hK.out _ _ (hHeld.kept hb3) (fun hHeld=>?_)
      clear hK K hb3
      refine rdg 7 (some 6) ?_
      refine wdn ?_
      have HB8:=hid2 hHeld
      clear hHeld
      rw [HIx.out]
      go_wp2_with fail
      refine wp_region_held_drew (S:=fun W=>BoxS w W o) (by kernel_rfl) (HB8.out.kept (Below.refl _ _).drew) (fun hHeld=>?_)
      generalize World.drew _=wE at hHeld ⊢
      refine wF (fun W h=>aI ((HRf.out.below h.below).L) (aI (HKc.out W h.below) (boxCells h.box))) fun x1=>?_
      refine tkx 0 34 x1 ?_
      refine tkx 1 35 x1 ?_
      refine tkx 2 36 x1 ?_
      refine tkx 3 37 x1 ?_
      refine tkx 4 38 x1 ?_
      refine tkx 5 39 x1 ?_
      refine tkx 6 40 x1 ?_
      refine tkx 7 41 x1 ?_
      refine tkx 8 42 x1 ?_
      refine tkx 9 43 x1 ?_
      refine tkx 10 44 x1 ?_
      refine tkx 11 45 x1 ?_
      refine tkx 12 46 x1 ?_
      refine tkx 13 47 x1 ?_
      refine tkx 14 48 x1 ?_
      refine tkx 15 49 x1 ?_
      refine tkx 16 50 x1 ?_
      refine tkx 17 51 x1 ?_
      refine tkx 18 52 x1 ?_
      refine tkx 19 53 x1 ?_
      refine tkx 20 54 x1 ?_
      refine tkx 21 55 x1 ?_
      refine tkx 22 56 x1 ?_
      refine tkx 23 57 x1 ?_
      refine tkx 24 58 x1 ?_
      refine tkx 25 59 x1 ?_
      refine tkx 26 60 x1 ?_
      refine tkx 27 61 x1 ?_
      refine rdg 28 (some 4) ?_
      refine wdn ?_
      go_wp2_with fail
      go_ret
      exact ⟨by rw [HRd.out];rfl,hHeld.below⟩
     ·have hkd':(os[i].kd==1)=false:=by simpa using hkd
      have HRd:Hid (readyL os o=false):=by
       show _=_
       rw [HRy.out]
       show (false||(true&&(decide (os[i].kd=1)&&decide (os[i].st<o.st))))=_
       rw [decide_eq_false hkd]
       rfl
      refine tk0 0 27 ?_
      refine tk0 1 28 ?_
      refine tk0 2 29 ?_
      refine tkf 3 30 (fun _ h=>(HRf.out.below h.below).L) ?_
      refine tk0 4 31 ?_
      refine tkf 5 32 (fun _ h=>boxCells h.box) ?_
      refine rd 6 (some 33) rfl (fun K hK=>?_)
      go_simp
      refine (HTh.out _ _ hHeld.below).mono ?_
      rintro e w3 ⟨rfl,hb3⟩
      refine hK.out _ _ (hHeld.kept hb3) (fun hHeld=>?_)
      clear hK K hb3
      refine rdg 7 (some 6) ?_
      refine wdn ?_
      have HB8:=hid2 hHeld
      clear hHeld
      rw [HIx.out]
      go_wp2_with fail
      refine wp_region_held_drew (S:=fun W=>BoxS w W o) (by kernel_rfl) (HB8.out.kept (Below.refl _ _).drew) (fun hHeld=>?_)
      generalize World.drew _=wE at hHeld ⊢
      refine wF (fun W h=>aI ((HRf.out.below h.below).L) (aI (HKc.out W h.below) (boxCells h.box))) fun x1=>?_
      refine tkx 0 34 x1 ?_
      refine tkx 1 35 x1 ?_
      refine tkx 2 36 x1 ?_
      refine tkx 3 37 x1 ?_
      refine tkx 4 38 x1 ?_
      refine tkx 5 39 x1 ?_
      refine tkx 6 40 x1 ?_
      refine tkx 7 41 x1 ?_
      refine tkx 8 42 x1 ?_
      refine tkx 9 43 x1 ?_
      refine tkx 10 44 x1 ?_
      refine tkx 11 45 x1 ?_
      refine tkx 12 46 x1 ?_
      refine tkx 13 47 x1 ?_
      refine tkx 14 48 x1 ?_
      refine tku 15 49 ?_
      refine tku 16 50 ?_
      refine tku 17 51 ?_
      refine tku 18 52 ?_
      refine tku 19 53 ?_
      refine tku 20 54 ?_
      refine tku 21 55 ?_
      refine tku 22 56 ?_
      refine tku 23 57 ?_
      refine tku 24 58 ?_
      refine tku 25 59 ?_
      refine tku 26 60 ?_
      refine tkx 27 61 x1 ?_
      refine rdg 28 (some 4) ?_
      refine wdn ?_
      go_wp2_with fail
      go_ret
      exact ⟨by rw [HRd.out];rfl,hHeld.below⟩
theorem onL_ins {k:Int} {l:List Opn} {x:Opn} (h:x∈onL k [] l):x∈insOf l∧x.rf=k:=by
 have:=(onL_perm k l []).mem_iff.1 h
 rw [List.nil_append] at this
 obtain ⟨h1,h2⟩:=List.mem_filter.1 this
 rw [decide_eq_true_eq] at h2
 exact ⟨List.mem_filter.2 ⟨h1,by simpa using h2.1⟩,h2.2⟩
theorem toldR_desc (l:List Opn):∀ (n:Nat) (k:Int),∀ x∈toldR n l k,x∈insOf l∧∃ c∈insOf l,c.rf=k∧Desc (insOf l) c x
 | 0,_,_,h=>by cases h
 | n+1,k,x,h=>by
  obtain ⟨o,ho,hx⟩:=List.mem_flatMap.1 (show x∈(onL k [] l).flatMap _ from h)
  obtain ⟨ho1,ho2⟩:=onL_ins ho
  rcases List.mem_cons.1 hx with e|q
  ·subst e;exact ⟨ho1,_,ho1,ho2,.self⟩
  ·obtain ⟨h1,c,hc,e,hd⟩:=toldR_desc l n _ x q
   exact ⟨h1,o,ho1,ho2,Desc.trans (.down .self ho1 hc e) hd⟩
theorem toldR_nodup {l:List Opn} (hs:SetOk l):∀ (n:Nat) (k:Int),(toldR n l k).Nodup
 | 0,_=>List.nodup_nil
 | n+1,k=>by
  have hU:=hs.up
  have hK:∀ x∈insOf l,∀ y∈insOf l,x.key=y.key→x=y:=fun x hx y hy e=>byKey_inj hs.by' (List.mem_filter.1 hx).1 (List.mem_filter.1 hy).1 e
  have hd:∀ o∈onL k [] l,∀ x∈o::toldR n l o.key,Desc (insOf l) o x:=fun o ho x hx=>by
   rcases List.mem_cons.1 hx with e|q
   ·subst e;exact .self
   ·obtain ⟨-,c,hc,e,hd⟩:=toldR_desc l n _ x q
    exact Desc.trans (.down .self (onL_ins ho).1 hc e) hd
  refine List.pairwise_flatMap.2 ⟨fun o ho=>?_,?_⟩
  ·refine List.pairwise_cons.2 ⟨fun b hb=>?_,toldR_nodup hs n _⟩
   obtain ⟨-,c,hc,e,hd⟩:=toldR_desc l n _ b hb
   have h3:=hd.st hU
   have h4:=hU _ hc _ (onL_ins ho).1 e
   intro h5
   subst h5
   omega
  ·have hn:(onL k [] l).Nodup:=(onL_perm k l []).symm.nodup (List.Pairwise.sublist List.filter_sublist hs.by'.nodup)
   refine List.Pairwise.imp_of_mem ?_ hn
   intro a b ha hb hne x hx y hy hxy
   subst hxy
   exact desc_one hU hK (onL_ins ha).1 (onL_ins hb).1 hne ((onL_ins ha).2.trans (onL_ins hb).2.symm) (hd a ha x hx) (hd b hb x hy)
theorem toldR_len {l:List Opn} (hs:SetOk l) (n:Nat) (k:Int):(toldR n l k).length≤120:=by
 have h1:=nodup_len (toldR_nodup hs n k) (fun x hx=>(toldR_desc l n k x hx).1)
 have h2:=List.length_filter_le (fun o:Opn=>decide (o.kd=1)) l
 have h3:=hs.len
 unfold insOf at h1
 omega
theorem told_nil (k:Int) (w:World):Calls Tryz.prog 211 #[.slice none 0 0,.int .u64 k] w fun e w'=>(∃ v,e=.returned v∧OwnO w' w.heap.size v [])∧Below w.heap.size w w':=by
 go_enter Tryz.func211,Tryz.ntmps211
 go_wp2_with fail
 go_loopw [5,6] (fun ov iv wr=>ov=.slice none 0 0∧iv=.int .i64 0∧Hid (Below w.heap.size w wr)) (fun _ _ _=>0)
 case atStart=>exact ⟨rfl,rfl,hid2 (Below.refl _ _)⟩
 case round=>
  obtain ⟨rfl,rfl,HB⟩:=hrel
  obtain ⟨wo,rfl⟩:∃ wo:World,wo=wr:=⟨_,rfl⟩
  go_wp2_with fail
  go_loopw [10,11] (fun ov iv wx=>ov=.slice none 0 0∧iv=.int .i64 0∧Hid (Below w.heap.size w wx)) (fun _ _ _=>0)
  case atStart=>exact ⟨rfl,rfl,HB⟩
  case round=>
   obtain ⟨rfl,rfl,HB2⟩:=hrel
   go_wp2_with fail
   go_ret
   exact ⟨⟨_,rfl,ownO_nil _ _⟩,HB2.out⟩
theorem toldR_nil:∀ (n:Nat) (k:Int),toldR n [] k=[]
 | 0,_=>rfl
 | _+1,_=>rfl
theorem refTold_any {os:List Opn} (hs:SetOk os):∀ (n:Nat) (k:Int) (v:Value) (w:World),OwnK w 0 v os→(∀ x∈insOf os,x.rf=k→1073741824≤x.st+n) →
  Calls Tryz.prog 211 #[v,.int .u64 k] w fun e w'=>(∃ u,e=.returned u∧OwnO w' w.heap.size u (toldR n os k))∧Below w.heap.size w w':=by
 intro n
 induction n with
 | zero=>
  intro k v w hO hst
  have hon:onL k [] os=[]:=by
   cases h:onL k [] os with
   | nil=>rfl
   | cons x l=>
    obtain ⟨h1,h2⟩:=onL_ins (k:=k) (l:=os) (x:=x) (by rw [h];exact List.mem_cons_self ..)
    have h3:=hst x h1 h2
    have h4:=(ok_nums (hs.ok x (List.mem_filter.1 h1).1)).2.2.1
    omega
  rcases hO.2 with ⟨rfl,e⟩|⟨g,cap,cur,rfl,_⟩
  ·exact told_nil k w
  ·have:=told_step g cap os k (fun _=>[]) w hO hs.keyT hs.len (by rw [hon];exact Nat.zero_le _) (by rw [hon];intro o ho;cases ho)
   rw [hon] at this
   exact this
 | succ n ih=>
  intro k v w hO hst
  rcases hO.2 with ⟨rfl,e⟩|⟨g,cap,cur,rfl,_⟩
  ·obtain rfl:=List.length_eq_zero_iff.1 e
   rw [toldR_nil]
   exact told_nil k w
  ·refine told_step g cap os k (fun o=>toldR n os o.key) w hO hs.keyT hs.len (by have:=toldR_len hs (n+1) k;rw [toldR] at this;omega) fun o ho W hW=>ih o.key _ W (own_frame hO fun g hg=>hW.block g (World.ownsRow.lt hO g hg).2) fun x hx e=>?_
   obtain ⟨h1,h2⟩:=onL_ins ho
   have h3:=hs.up x hx o h1 e
   have h4:=hst o h1 h2
   omega
def gn (os:List Opn) (k:Int):Bool:=os.any fun y=>decide (y.kd=2)&&decide (y.rf=k)
theorem gn_take (os:List Opn) (k:Int) {j:Nat} (h:j<os.length):gn (os.take (j+1)) k=(gn (os.take j) k||(decide (os[j].kd=2)&&decide (os[j].rf=k))):=by
 unfold gn
 rw [List.take_succ_eq_append_getElem h,List.any_append]
 simp
theorem gn_gone {os:List Opn} (hs:SetOk os) (k:Int):gn os k=(goneOf os).contains k:=by
 have h1:gn os k=true↔(goneOf os).contains k=true:=by
  unfold gn goneOf
  rw [List.any_eq_true,List.contains_iff_mem,List.mem_map]
  constructor
  ·rintro ⟨y,hy,e⟩
   simp only [Bool.and_eq_true,decide_eq_true_eq] at e
   exact ⟨y,List.mem_filter.2 ⟨hy,by simp [e.1]⟩,e.2⟩
  ·rintro ⟨y,hy,e⟩
   obtain ⟨m,h2⟩:=List.mem_filter.1 hy
   refine ⟨y,m,?_⟩
   have h3:¬ y.kd=1:=by simpa using h2
   have h4:y.kd=2:=by
    rcases ok_kd (hs.ok y m) with q|q
    ·exact absurd q.1 h3
    ·exact q.1
   simp [h4,e]
 cases h2:gn os k<;>cases h3:(goneOf os).contains k<;>simp_all
theorem vis_gn {os:List Opn} (hs:SetOk os):(toldR 1073741824 os 0).filter (fun o=>!gn os o.key)=visR os:=by
 unfold visR
 refine List.filter_congr fun x _=>?_
 rw [gn_gone hs]
theorem filter_take {p:Opn→Bool} (l:List Opn) {i:Nat} (h:i<l.length):(l.take (i+1)).filter p=(l.take i).filter p++if p l[i] then [l[i]] else []:=by
 rw [List.take_succ_eq_append_getElem h,List.filter_append]
 cases hp:p l[i]<;>simp [hp]
theorem refVis_any (b:Nat) (cl:Int) (vL vW:Value) (ss:Int) (dn:Bool) (vK:Value) (os ws:List Opn) (w:World) (H:RefIs w b cl vL vW ss dn vK os ws) (hs:SetOk os) :
  Calls Tryz.prog 132 #[.pointer (some ⟨b,0,none⟩)] w fun e w'=>(∃ v,e=.returned v∧OwnO w' w.heap.size v (visR os))∧Below w.heap.size w w':=by
 obtain ⟨io,oi,oz0,oz1,oz2⟩:=info_parts infoOpB
 have hn:=hs.len
 have c73:=H.L
 have HRf:=hid2 H
 have HS:=hid2 hs
 have HTd:=hid2 (refTold_any hs 1073741824 0 vL w H.hL fun x hx _=>by have:=(ok_nums (hs.ok x (List.mem_filter.1 hx).1)).2.2.1;omega)
 have hal:=toldR_len hs 1073741824 0
 have HKA:Hid (∀ x∈toldR 1073741824 os 0,KeyT x):=fun x hx=>hs.keyT x (List.mem_filter.1 (toldR_mem os _ _ x hx)).1
 have HV:=hid2 (vis_gn hs)
 have HNil:Hid (os=[]→toldR 1073741824 os 0=[]):=fun e=>by rw [e,toldR_nil]
 generalize toldR 1073741824 os 0=all at *
 obtain ⟨aL,cL,rfl⟩:=ownK_form H.hL
 clear H hs
 go_enter Tryz.func132,Tryz.ntmps132
 go_wp2_with (go_at_call 211;refine HTd.out.mono ?_;rintro e w2 ⟨⟨v2,rfl,ho2⟩,hb2⟩;have HA2:=hid2 ho2;have HR2:=hid2 (HRf.out.below hb2);have HB2:=hid2 hb2;clear ho2 hb2 c73 HTd HRf)
 obtain ⟨a2,c2,rfl⟩:=ownO_form HA2.out
 go_loopw [4,5] (fun ov iv wr=>∃ (i:Nat) (u:Value),i≤all.length∧ov=u∧iv=.int .i64 i∧Hid (AppG 43 6 w2 wr u ((all.take i).filter fun o=>!gn os o.key).length (opCs ((all.take i).filter fun o=>!gn os o.key)))) (fun _ iv _=>all.length-(intOf iv).toNat)
 case atStart=>exact ⟨0,_,Nat.zero_le _,rfl,rfl,hid2 (by rw [List.take_zero];exact AppG.start _ _ _)⟩
 case round=>
  obtain ⟨i,u,hi,hou,rfl,HJ⟩:=hrel
  obtain rfl:=hou.symm
  clear hou
  by_cases hil:i<all.length
  ·have li:(i:Int)<(all.length:Int):=by omega
   rcases HA2.out.2 with ⟨e,e1⟩|⟨g,cap,cur,e,_⟩
   ·omega
   cases e
   rcases HR2.out.hL.2 with ⟨e,e1⟩|⟨gL,capL,curL,e,_⟩
   ·have:=HNil.out (List.length_eq_zero_iff.1 e1)
    rw [this] at hil
    cases hil
   cases e
   have HKn:=hid2 (HKA.out _ (List.getElem_mem hil))
   obtain ⟨wo,rfl⟩:∃ wo:World,wo=wr:=⟨_,rfl⟩
   have HWO:Hid (∀ W,Below wo.heap.size wo W→Below w2.heap.size w2 W):=fun W h=>HJ.out.below.trans (h.mono HJ.out.below.size)
   go_wp2_with fail
   go_loopw [6,7] (fun gv jv wx=>∃ j:Nat,j≤os.length∧gv=.bool (gn (os.take j) all[i].key)∧jv=.int .i64 j∧Hid (Below wo.heap.size wo wx)) (fun _ jv _=>os.length-(intOf jv).toNat)
   case atStart=>exact ⟨0,Nat.zero_le _,rfl,rfl,hid2 (Below.refl _ _)⟩
   case round=>
    obtain ⟨j,hj,rfl,rfl,HX⟩:=hrel
    have c73:=(HR2.out.below (HWO.out _ HX.out)).L
    by_cases hjl:j<os.length
    ·have lj:(j:Int)<(os.length:Int):=by omega
     have HGt:=hid2 (gn_take os all[i].key hjl)
     go_wp2_with fail
     clear c73
     refine wp_region_held_drew (S:=fun W=>Below wo.heap.size wo W) (by kernel_rfl) (HX.out.trans ((Below.refl _ _).drew.mono HX.out.size)) (fun hHeld=>?_)
     generalize World.drew _=wD at hHeld ⊢
     clear HX
     cases hg:gn (os.take j) all[i].key with
     | true=>
      rw [hg,Bool.true_or] at HGt
      refine wF (fun _ h=>aI ((HR2.out.below (HWO.out _ h)).L) (aI (((OwnK.at0 HR2.out.hL).below (HWO.out _ h)).cells hjl) (((OwnO.at0 HA2.out).below (HWO.out _ h)).cells hil))) fun x1=>?_
      refine tkx 0 28 x1 ?_
      refine tkx 1 29 x1 ?_
      refine tku 2 30 ?_
      refine tku 3 31 ?_
      refine tku 4 32 ?_
      refine tku 5 33 ?_
      refine tku 6 34 ?_
      refine tku 7 35 ?_
      refine tku 8 36 ?_
      refine tku 9 37 ?_
      refine tku 10 38 ?_
      refine tku 11 39 ?_
      refine tku 12 40 ?_
      refine tku 13 41 ?_
      refine tku 14 42 ?_
      refine tku 15 43 ?_
      refine tku 16 44 ?_
      refine tku 17 45 ?_
      refine tku 18 46 ?_
      refine tku 19 47 ?_
      refine tku 20 48 ?_
      refine tku 21 49 ?_
      refine tku 22 50 ?_
      refine tku 23 51 ?_
      refine tku 24 52 ?_
      refine tku 25 53 ?_
      refine tku 26 54 ?_
      refine tku 27 55 ?_
      refine tku 28 56 ?_
      refine tkx 29 57 x1 ?_
      refine rdg 30 (some 6) ?_
      refine wdn ?_
      go_wp2_with fail
      go_roundw
      case rel=>exact ⟨j+1,hjl,by rw [HGt.out],by go_num,hid2 hHeld⟩
      case measure=>simp [intOf];omega
     | false=>
      rw [hg,Bool.false_or] at HGt
      by_cases hkd:os[j].kd=2
      ·have hkd':(os[j].kd==2)=true:=by simpa using hkd
       rw [decide_eq_true hkd,Bool.true_and] at HGt
       clear hkd
       refine wF (fun _ h=>aI ((HR2.out.below (HWO.out _ h)).L) (aI (((OwnK.at0 HR2.out.hL).below (HWO.out _ h)).cells hjl) (((OwnO.at0 HA2.out).below (HWO.out _ h)).cells hil))) fun x1=>?_
       refine tkx 0 28 x1 ?_
       refine tkx 1 29 x1 ?_
       refine tkx 2 30 x1 ?_
       refine tkx 3 31 x1 ?_
       refine tkx 4 32 x1 ?_
       refine tkx 5 33 x1 ?_
       refine tkx 6 34 x1 ?_
       refine tkx 7 35 x1 ?_
       refine tkx 8 36 x1 ?_
       refine tkx 9 37 x1 ?_
       refine tkx 10 38 x1 ?_
       refine tkx 11 39 x1 ?_
       refine tkx 12 40 x1 ?_
       refine tkx 13 41 x1 ?_
       refine tkx 14 42 x1 ?_
       refine tkx 15 43 x1 ?_
       refine tkx 16 44 x1 ?_
       refine tkx 17 45 x1 ?_
       refine tkx 18 46 x1 ?_
       refine tkx 19 47 x1 ?_
       refine tkx 20 48 x1 ?_
       refine tkx 21 49 x1 ?_
       refine tkx 22 50 x1 ?_
       refine tkx 23 51 x1 ?_
       refine tkx 24 52 x1 ?_
       refine tkx 25 53 x1 ?_
       refine rd 26 (some 54) rfl (fun K hK=>?_)
       go_simp
       refine (keyG _ _ _ _ _ _ HKn.out.1 HKn.out.2 _).mono ?_
       rintro e wk ⟨rfl,hb⟩
       refine hK.out _ _ (hHeld.trans (hb.mono hHeld.size)) (fun hHeld=>?_)
       clear hK K hb
       refine tkx 27 55 x1 ?_
       refine tkx 28 56 x1 ?_
       refine tkx 29 57 x1 ?_
       refine rdg 30 (some 6) ?_
       refine wdn ?_
       go_wp2_with fail
       go_roundw
       case rel=>exact ⟨j+1,hjl,by rw [HGt.out];rfl,by go_num,hid2 hHeld⟩
       case measure=>simp [intOf];omega
      ·have hkd':(os[j].kd==2)=false:=by simpa using hkd
       rw [decide_eq_false hkd,Bool.false_and] at HGt
       clear hkd
       refine wF (fun _ h=>aI ((HR2.out.below (HWO.out _ h)).L) (aI (((OwnK.at0 HR2.out.hL).below (HWO.out _ h)).cells hjl) (((OwnO.at0 HA2.out).below (HWO.out _ h)).cells hil))) fun x1=>?_
       refine tkx 0 28 x1 ?_
       refine tkx 1 29 x1 ?_
       refine tkx 2 30 x1 ?_
       refine tkx 3 31 x1 ?_
       refine tkx 4 32 x1 ?_
       refine tkx 5 33 x1 ?_
       refine tkx 6 34 x1 ?_
       refine tkx 7 35 x1 ?_
       refine tkx 8 36 x1 ?_
       refine tkx 9 37 x1 ?_
       refine tkx 10 38 x1 ?_
       refine tkx 11 39 x1 ?_
       refine tkx 12 40 x1 ?_
       refine tku 13 41 ?_
       refine tku 14 42 ?_
       refine tku 15 43 ?_
       refine tku 16 44 ?_
       refine tku 17 45 ?_
       refine tku 18 46 ?_
       refine tku 19 47 ?_
       refine tku 20 48 ?_
       refine tku 21 49 ?_
       refine tku 22 50 ?_
       refine tku 23 51 ?_
       refine tku 24 52 ?_
       refine tku 25 53 ?_
       refine tku 26 54 ?_
       refine tku 27 55 ?_
       refine tkx 28 56 x1 ?_
       refine tkx 29 57 x1 ?_
       refine rdg 30 (some 6) ?_
       refine wdn ?_
       go_wp2_with fail
       go_roundw
       case rel=>exact ⟨j+1,hjl,by rw [HGt.out],by go_num,hid2 hHeld⟩
       case measure=>simp [intOf];omega
    ·obtain rfl:j=os.length:=by omega
     rw [List.take_length]
     have hft:=filter_take (p:=fun o=>!gn os o.key) all hil
     have HJ2:Hid (AppG 43 6 w2 wr u ((all.take i).filter fun o=>!gn os o.key).length (opCs ((all.take i).filter fun o=>!gn os o.key))):=HJ.out.kept HX.out
     cases hg:gn os all[i].key with
     | true=>
      have HF:Hid (AppG 43 6 w2 wr u ((all.take (i+1)).filter fun o=>!gn os o.key).length (opCs ((all.take (i+1)).filter fun o=>!gn os o.key))):=by
       show AppG _ _ _ _ _ _ _
       rw [hft,hg]
       simpa using HJ2.out
      clear hft
      go_wp2_with fail
      go_roundw
      case rel=>exact ⟨i+1,u,hil,rfl,by go_num,HF⟩
      case measure=>simp [intOf];omega
     | false=>
      rw [hg] at hft
      have HFT:=hid2 hft
      have hcs:=((OwnO.at0 HA2.out).below (HWO.out _ HX.out)).cells hil
      simp only [Nat.zero_add] at hcs
      obtain ⟨q0,q1,q2,q3,q4,q5⟩:=hcs
      have hpl:((all.take i).filter fun o=>!gn os o.key).length≤120:=Nat.le_trans (List.length_filter_le _ _) (by rw [List.length_take];omega)
      generalize ((all.take i).filter fun o=>!gn os o.key)=pre at *
      clear hft
      go_wp2_with (at_builtin;refine wpList_append_any rfl (.tmp 60) (.tmp 65) 32 rfl _ 43 io _ 6 40 Tryz.underlying32 oi oz0 oz1 oz2 rfl (by decide) u _ _ rfl (HJ2.out.alloc _).own (some ⟨wr.heap.size,0,none⟩) 1 1 (opCs [all[i]]) rfl rfl (Or.inr ⟨_,rfl,World.news_of_block (heap_alloc_new wr _)⟩) (opCs_one _) (by unfold maxLen;omega) (by omega) (HJ2.out.alloc _).below.size ?_;intro v4 w4 ho4 hg4 hv4;have H4:=hid2 ((HJ2.out.alloc _).app ho4 hg4);clear ho4 hg4 hv4)
      have HF:Hid (AppG 43 6 w2 w4 v4 ((all.take (i+1)).filter fun o=>!gn os o.key).length (opCs ((all.take (i+1)).filter fun o=>!gn os o.key))):=by
       show AppG _ _ _ _ _ _ _
       rw [HFT.out]
       simp only [Bool.not_false,if_true,List.length_append,List.length_cons,List.length_nil,opCs_app]
       exact H4.out
      go_roundw
      case rel=>exact ⟨i+1,v4,hil,rfl,by go_num,HF⟩
      case measure=>simp [intOf];omega
  ·obtain rfl:i=all.length:=by omega
   rw [List.take_length] at HJ
   go_wp2_with fail
   go_ret
   exact ⟨⟨_,rfl,by rw [← HV.out];exact HJ.out.ownO HB2.out.size rfl rfl⟩,HB2.out.trans (HJ.out.below.mono HB2.out.size)⟩
theorem infoRn:(Tryz.prog.info? 21).map (fun i=>(i.zero,i.size,i.bytes))=some (some (.int .i32 0),1,4):=by kernel_rfl
def i32s (l:List Int):List Value:=l.map (Value.int .i32)
theorem conv_runes {w:World} {B:Nat} {v:Value} {ns:List Int} (h:w.ownsRow B 21 1 v ns.length (i32s ns)):(convert 53 9 v).run Tryz.prog w=.ok (.string (runesBytes ns)) w:=by
 rcases h.2 with ⟨rfl,e⟩|⟨g,cap,cur,rfl,_⟩
 ·obtain rfl:=List.length_eq_zero_iff.1 e
  exact run_convert_runes_nil w 53 9 21 0 0 Tryz.underlying53 Tryz.underlying21 Tryz.underlying9
 ·have:=run_convert_runes w 53 9 21 ⟨g,0,none⟩ ns.length cap ns (Nat.le_refl _) Tryz.underlying53 Tryz.underlying21 Tryz.underlying9 fun j hj=>by
   have hc:=World.ownsRow.cellAt h j (by omega)
   have ha:(⟨g,0,none⟩:Addr).add j=⟨g,j,none⟩:=by
    unfold Addr.add
    split
    ·rename_i e;subst e;rfl
    ·simp
   rw [ha,hc]
   unfold i32s
   rw [List.getElem?_map,List.getElem?_eq_getElem hj,List.getD_eq_getElem?_getD,List.getElem?_eq_getElem hj]
   rfl
  rwa [List.take_length] at this
theorem encode_eq {r:Int} (h:okChar r=true):Utf8.encode r=⟨(Lib.encodeRune r).toArray⟩:=by
 unfold okChar at h
 simp only [Bool.and_eq_true,Bool.or_eq_true,decide_eq_true_eq] at h
 have hv:Utf8.valid r=true:=by
  unfold Utf8.valid
  simp only [Bool.or_eq_true,Bool.and_eq_true,decide_eq_true_eq]
  omega
 unfold Utf8.encode Lib.encodeRune
 simp only [hv,if_true]
 rcases Int.lt_or_le r 128 with h1|h1
 ·rw [if_pos (by omega),Lib.encodeRuneZ_one (by omega) (by omega)]
  rfl
 ·rw [if_neg (by omega)]
  rcases Int.lt_or_le r 2048 with h2|h2
  ·rw [if_pos (by omega),Lib.encodeRuneZ_two (by omega) (by omega)]
   simp only [List.map_cons,List.map_nil]
   rw [show (192+r / 64).toNat=192+r.toNat / 64 by omega,show (128+r % 64).toNat=128+r.toNat % 64 by omega]
  ·rw [if_neg (by omega)]
   rcases Int.lt_or_le r 65536 with h3|h3
   ·rw [if_pos (by omega),Lib.encodeRuneZ_three (by omega)]
    simp only [List.map_cons,List.map_nil]
    rw [show (224+r / 4096).toNat=224+r.toNat / 4096 by omega,show (128+r / 64 % 64).toNat=128+r.toNat / 64 % 64 by omega,show (128+r % 64).toNat=128+r.toNat % 64 by omega]
   ·rw [if_neg (by omega),Lib.encodeRuneZ_four (by omega) (by omega)]
    simp only [List.map_cons,List.map_nil]
    rw [show (240+r / 262144).toNat=240+r.toNat / 262144 by omega,show (128+r / 4096 % 64).toNat=128+r.toNat / 4096 % 64 by omega,show (128+r / 64 % 64).toNat=128+r.toNat / 64 % 64 by omega,show (128+r % 64).toNat=128+r.toNat % 64 by omega]
theorem bytes_cat (a b:List UInt8):(⟨a.toArray⟩:ByteArray)++⟨b.toArray⟩=⟨(a++b).toArray⟩:=by
 apply ByteArray.ext
 rw [ByteArray.data_append]
 simp
theorem runes_fold:∀ (l:List Opn) (a:List UInt8),(∀ o∈l,okChar o.ch=true)→(l.map Opn.ch).foldl (fun r n=>r++Utf8.encode n) (⟨a.toArray⟩:ByteArray)=⟨(a++strOf l).toArray⟩
 | [],a,_=>by simp [strOf]
 | o::l,a,h=>by
  rw [List.map_cons,List.foldl_cons,encode_eq (h o (List.mem_cons_self ..)),bytes_cat,runes_fold l _ fun x hx=>h x (List.mem_cons_of_mem _ hx)]
  simp [strOf]
theorem runes_str {l:List Opn} (h:∀ o∈l,okChar o.ch=true):runesBytes (l.map Opn.ch)=⟨(strOf l).toArray⟩:=by
 have:=runes_fold l [] h
 rw [List.nil_append] at this
 exact this
theorem vis_ch {os:List Opn} (hs:SetOk os):∀ o∈visR os,okChar o.ch=true:=fun o ho=>by
 have h1:=(List.mem_filter.1 ho).1
 have h2:=toldR_mem os _ _ o h1
 obtain ⟨m,hk⟩:=List.mem_filter.1 h2
 rw [decide_eq_true_eq] at hk
 rcases ok_kd (hs.ok o m) with q|q
 ·exact q.2.1
 ·omega
theorem vis_len {os:List Opn} (hs:SetOk os):(visR os).length≤120:=Nat.le_trans (List.length_filter_le _ _) (toldR_len hs _ _)
theorem refText_any (b:Nat) (cl:Int) (vL vW:Value) (ss:Int) (dn:Bool) (vK:Value) (os ws:List Opn) (w:World) (H:RefIs w b cl vL vW ss dn vK os ws) (hs:SetOk os) :
  Calls Tryz.prog 82 #[.pointer (some ⟨b,0,none⟩)] w fun e w'=>e=.returned (.string ⟨(strOf (visR os)).toArray⟩)∧Below w.heap.size w w':=by
 obtain ⟨ir,ri,rz0,rz1,rz2⟩:=info_parts infoRn
 have HV:=hid2 (refVis_any b cl vL vW ss dn vK os ws w H hs)
 have HE:=hid2 (runes_str (vis_ch hs))
 have hl:=vis_len hs
 generalize visR os=L at *
 clear H hs
 go_enter Tryz.func82,Tryz.ntmps82
 go_wp2_with (go_at_call 132;refine HV.out.mono ?_;rintro e w2 ⟨⟨v2,rfl,ho2⟩,hb2⟩;have HA2:=hid2 ho2;have HB2:=hid2 hb2;clear ho2 hb2 HV)
 obtain ⟨a2,c2,rfl⟩:=ownO_form HA2.out
 go_loopw [4,5] (fun ov iv wr=>∃ (i:Nat) (u:Value),i≤L.length∧ov=u∧iv=.int .i64 i∧Hid (AppG 21 1 w2 wr u (L.take i).length (i32s ((L.take i).map Opn.ch)))) (fun _ iv _=>L.length-(intOf iv).toNat)
 case atStart=>exact ⟨0,_,Nat.zero_le _,rfl,rfl,hid2 (by rw [List.take_zero];exact AppG.start _ _ _)⟩
 case round=>
  obtain ⟨i,u,hi,hou,rfl,HJ⟩:=hrel
  obtain rfl:=hou.symm
  clear hou
  by_cases hil:i<L.length
  ·have li:(i:Int)<(L.length:Int):=by omega
   rcases HA2.out.2 with ⟨e,e1⟩|⟨g,cap,cur,e,_⟩
   ·omega
   cases e
   have hcs:=((OwnO.at0 HA2.out).below HJ.out.below).cells hil
   simp only [Nat.zero_add] at hcs
   obtain ⟨q0,q1,q2,q3,q4,q5⟩:=hcs
   have hpl:(L.take i).length≤120:=by rw [List.length_take];omega
   go_wp2_with (at_builtin;refine wpList_append_any rfl (.tmp 14) (.tmp 20) 53 rfl _ 21 ir _ 1 4 Tryz.underlying53 ri rz0 rz1 rz2 rfl (by decide) u _ _ rfl (HJ.out.alloc _).own (some ⟨wr.heap.size,0,none⟩) 1 1 [.int .i32 L[i].ch] rfl rfl (Or.inr ⟨_,rfl,World.news_of_block (heap_alloc_new wr _)⟩) (by simp [Value.oneCell']) (by unfold maxLen;omega) (by omega) (HJ.out.alloc _).below.size ?_;intro v4 w4 ho4 hg4 hv4;have H4:=hid2 ((HJ.out.alloc _).app ho4 hg4);clear ho4 hg4 hv4)
   have HF:Hid (AppG 21 1 w2 w4 v4 (L.take (i+1)).length (i32s ((L.take (i+1)).map Opn.ch))):=by
    show AppG _ _ _ _ _ _ _
    rw [List.take_succ_eq_append_getElem hil,List.length_append,List.map_append]
    unfold i32s
    rw [List.map_append]
    exact H4.out
   go_roundw
   case rel=>exact ⟨i+1,v4,hil,rfl,by go_num,HF⟩
   case measure=>simp [intOf];omega
  ·obtain rfl:i=L.length:=by omega
   rw [List.take_length] at HJ
   have hcv:=conv_runes (ns:=L.map Opn.ch) (by rw [List.length_map];exact HJ.out.own)
   go_wp2_with fail
   go_ret
   exact ⟨by rw [← HE.out];rfl,HB2.out.trans (HJ.out.below.mono HB2.out.size)⟩
end Go.Proofs.YtgccjefbedpmpaaGreatDoor

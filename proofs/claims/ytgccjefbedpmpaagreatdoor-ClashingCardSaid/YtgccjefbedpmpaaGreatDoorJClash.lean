import Derived.Test.YtgccjefbedpmpaaGreatDoorJRoot
namespace Go.Proofs.YtgccjefbedpmpaaGreatDoor
open Go.RowKit
set_option maxRecDepth 100000
set_option maxHeartbeats 8000000
theorem rangeNowB (lo hi:Int) (b:Nat) (cl ss:Int) (top vW vK:Value) (t:Tr) (w:World) (h:RowIs w b 118 7 (rep7 0 cl top vW ss vK)) (hI:IsTr w top t) (ht:t.T):Calls Tryz.prog 56 #[.pointer (some ⟨b,0,none⟩),.int .u64 lo,.int .u64 hi] w fun e w'=>(∃ p,e=.returned (.agg #[.pointer p])∧IsTr w' (.pointer p) (t.rng lo hi))∧Below w.heap.size w w':=
 (rangeNow_any lo hi b cl ss top vW vK t w h hI ht).mono fun e w' ⟨⟨p,he,hp⟩,hr,hb⟩=>by
  obtain ⟨pa,rfl⟩:=hp.ptr
  exact ⟨⟨pa,he,hp⟩,same_below hb h hr⟩
theorem results_c2 {P:Program} {fn:Func} {p q:Tmp} {t1 t2:TypeId} (h:fn.results=#[.cell p t1,.cell q t2]) (tmps:Array Value) (w:World) (g1 g2:Nat) (k1 k2:TypeId) (c1 c2:Array Value) (d1 d2:TypeDesc)
  (hp:tmps.getD p undef=.pointer (some ⟨g1,0,none⟩)) (hq:tmps.getD q undef=.pointer (some ⟨g2,0,none⟩))
  (h1:w.heap[g1]?=some (.cells c1 k1 (0,0))) (h2:w.heap[g2]?=some (.cells c2 k2 (0,0)))
  (u1:P.underlying t1=some d1) (u2:P.underlying t2=some d2) (e1:(match d1 with | .struct _ | .array _ _=>true|_=>false)=true) (e2:(match d2 with | .struct _ | .array _ _=>true|_=>false)=true)
  (i1:(P.info? t1).map (·.size)=some c1.size) (i2:(P.info? t2).map (·.size)=some c2.size) :
  (results fn tmps).run P w=.ok (.tuple #[.agg c1,.agg c2]) w:=by
 have hp':tmps[p]?.getD undef=.pointer (some ⟨g1,0,none⟩):=by simpa using hp
 have hq':tmps[q]?.getD undef=.pointer (some ⟨g2,0,none⟩):=by simpa using hq
 simp [results,h,hp',hq',asAddr,run_loadVar_row w g1 k1 t1 c1 (0,0) d1 h1 u1 e1 i1,run_loadVar_row w g2 k2 t2 c2 (0,0) d2 h2 u2 e2 i2]
structure RwS (w W:World) (g:Nat) (p:Option Addr) (x:Tr):Prop where
 below:Below w.heap.size w W
 r1:∃ f,RowIs W w.heap.size 103 1 f
 r2:∃ f,RowIs W (w.heap.size+1) 103 1 f
 c1:RowIs W g 103 1 fun _=>.pointer p
 tx:IsTr W (.pointer p) x
theorem RwS.kept {w W W2:World} {g:Nat} {p:Option Addr} {x:Tr} (h:RwS w W g p x) (hb:Below W.heap.size W W2):RwS w W2 g p x:=⟨h.below.trans (hb.mono h.below.size),h.r1.elim fun f r=>⟨f,r.below hb r.lt⟩,h.r2.elim fun f r=>⟨f,r.below hb r.lt⟩,h.c1.below hb h.c1.lt,h.tx.below hb⟩
theorem RwS.cell {w W:World} {g:Nat} {p:Option Addr} {x:Tr} (h:RwS w W g p x):W.cell? ⟨g,0,none⟩=some (.pointer p):=h.c1.cell (j:=0) (by omega)
theorem RwS.put1 {w W:World} {g:Nat} {p:Option Addr} {x:Tr} (h:RwS w W g p x) (hg:w.heap.size+1<g) (q:Option Addr):RwS w (W.setRow w.heap.size (rowOf 1 fun _=>.pointer q)) g p x∧RowIs (W.setRow w.heap.size (rowOf 1 fun _=>.pointer q)) w.heap.size 103 1 (fun _=>.pointer q)∧∀ t v,IsTr W v t→IsTr (W.setRow w.heap.size (rowOf 1 fun _=>.pointer q)) v t:=by
 obtain ⟨f,r⟩:=h.r1
 obtain ⟨f2,r2⟩:=h.r2
 exact ⟨⟨below_setRow' h.below (Nat.le_refl _) _,⟨_,r.setRow _⟩,⟨_,r2.setRowOther (by omega) _⟩,h.c1.setRowOther (by omega) _,isTr_set r (by decide) _ h.tx⟩,r.setRow _,fun t v i=>isTr_set r (by decide) _ i⟩
theorem RwS.put2 {w W:World} {g:Nat} {p:Option Addr} {x:Tr} (h:RwS w W g p x) (hg:w.heap.size+1<g) (q:Option Addr):RwS w (W.setRow (w.heap.size+1) (rowOf 1 fun _=>.pointer q)) g p x∧RowIs (W.setRow (w.heap.size+1) (rowOf 1 fun _=>.pointer q)) (w.heap.size+1) 103 1 (fun _=>.pointer q)∧∀ t v,IsTr W v t→IsTr (W.setRow (w.heap.size+1) (rowOf 1 fun _=>.pointer q)) v t:=by
 obtain ⟨f,r⟩:=h.r1
 obtain ⟨f2,r2⟩:=h.r2
 exact ⟨⟨below_setRow' h.below (by omega) _,⟨_,r.setRowOther (by omega) _⟩,⟨_,r2.setRow _⟩,h.c1.setRowOther (by omega) _,isTr_set r2 (by decide) _ h.tx⟩,r2.setRow _,fun t v i=>isTr_set r2 (by decide) _ i⟩
structure RwT (w W:World) (g g2 g3:Nat) (p q p3:Option Addr) (x y:Tr):Prop where
 s:RwS w W g p x
 c2:W.cell? ⟨g2,0,none⟩=some (.pointer q)
 c3:W.cell? ⟨g3,0,none⟩=some (.pointer p3)
 ty:IsTr W (.pointer q) y
 tz:IsTr W (.pointer p3) x
theorem RwT.kept {w W W2:World} {g g2 g3:Nat} {p q p3:Option Addr} {x y:Tr} (h:RwT w W g g2 g3 p q p3 x y) (hb:Below W.heap.size W W2):RwT w W2 g g2 g3 p q p3 x y:=⟨h.s.kept hb,(hb.cell (block_lt_of_cell h.c2)).trans h.c2,(hb.cell (block_lt_of_cell h.c3)).trans h.c3,h.ty.below hb,h.tz.below hb⟩
theorem cell_put {W:World} {g g' k:Nat} {v:Value} (h:W.cell? ⟨g,k,none⟩=some v) (hg:g≠g') (cs:Array Value):(W.setRow g' cs).cell? ⟨g,k,none⟩=some v:=(World.cell?_of_block (a:=⟨g,k,none⟩) (setRow_other _ _ _ _ hg)).trans h
theorem rangesWith_any (lo hi:Int) (b1 b2:Nat) (cl1 ss1 cl2 ss2:Int) (top1 vW1 vK1 top2 vW2 vK2:Value) (t1 t2:Tr) (w:World) (h1:RowIs w b1 118 7 (rep7 0 cl1 top1 vW1 ss1 vK1)) (hI1:IsTr w top1 t1) (ht1:t1.T) (h2:RowIs w b2 118 7 (rep7 0 cl2 top2 vW2 ss2 vK2)) (hI2:IsTr w top2 t2) (ht2:t2.T) (hs:(t1.rng lo hi).size≤1000000) :
  Calls Tryz.prog 67 #[.pointer (some ⟨b1,0,none⟩),.pointer (some ⟨b2,0,none⟩),.int .u64 lo,.int .u64 hi] w fun e w'=>(∃ p q,e=.returned (.tuple #[.agg #[.pointer p],.agg #[.pointer q]])∧IsTr w' (.pointer p) (t1.rng lo hi)∧IsTr w' (.pointer q) (t2.rng lo hi))∧Below w.heap.size w w':=by
 have H1:=hidE (fun W (hW:Below w.heap.size w W)=>rangeNowB lo hi b1 cl1 ss1 top1 vW1 vK1 t1 W (h1.below hW h1.lt) (hI1.below hW) ht1)
 have H2:=hidE (fun W (hW:Below w.heap.size w W)=>rangeNowB lo hi b2 cl2 ss2 top2 vW2 vK2 t2 W (h2.below hW h2.lt) (hI2.below hW) ht2)
 have HL:Hid (∀ W p,IsTr W (.pointer p) (t1.rng lo hi)→Calls Tryz.prog 116 #[.agg #[.pointer p]] W fun e w'=>e=.returned (.int .i64 (t1.rng lo hi).size)∧Below W.heap.size W w'):=fun W p h=>sLen_any _ _ W h (by omega)
 clear h1 hI1 ht1 h2 hI2 ht2
 generalize t1.rng lo hi=x at *
 generalize t2.rng lo hi=y at *
 have b0:Below w.heap.size w ((w.alloc (.cells #[.pointer none] 103)).alloc (.cells #[.pointer none] 103)):=(below1' _ _).trans ((below1' _ _).mono (by simp))
 have r1:=RowIs.last (w:=w) (t:=103) (f:=fun _=>.pointer none) (n:=1) (cs:=#[.pointer none]) rfl rfl
 have r2:=RowIs.last (w:=w.alloc (.cells #[.pointer none] 103)) (t:=103) (f:=fun _=>.pointer none) (n:=1) (cs:=#[.pointer none]) rfl rfl
 have hz1:(w.alloc (.cells #[.pointer none] 103)).heap.size=w.heap.size+1:=by simp
 rw [hz1] at r2
 have HB:=hidE (And.intro b0 (And.intro (r1.alloc (.cells #[.pointer none] 103)) r2))
 clear b0 r1 r2 hz1
 go_enter Tryz.func67,Tryz.ntmps67
 go_wp2_with (go_at_call 56;refine (H1.out _ HB.out.1).mono ?_;rintro e w1 ⟨⟨p,rfl,hp⟩,hb1⟩;have HA:Hid (RwS w (w1.alloc (.cells #[.pointer p] 103)) w1.heap.size p x∧w.heap.size+1<w1.heap.size):=⟨⟨(HB.out.1.trans (hb1.mono HB.out.1.size)).trans ((below1' _ _).mono (HB.out.1.trans (hb1.mono HB.out.1.size)).size),⟨_,(HB.out.2.1.below hb1 HB.out.2.1.lt).alloc _⟩,⟨_,(HB.out.2.2.below hb1 HB.out.2.2.lt).alloc _⟩,RowIs.last rfl rfl,hp.below (below1' _ _)⟩,(HB.out.2.2.below hb1 HB.out.2.2.lt).lt⟩;clear hp hb1)
 have hlt:=HA.out.2
 generalize w1.heap.size=g at HA hlt ⊢
 go_loopw [11,12] (fun u v wr=>Hid (RwS w wr g p x)) (fun _ _ _=>0)
 case atStart=>exact hidE HA.out.1
 case round=>
  clear HA HB
  have HS:Hid (RwS w wr g p x):=hrel
  clear hrel
  go_wp2_with (first
   | (go_at_call 56;have hq:=HS2;clear hq;refine (H1.out _ HS2.out.1.below).mono ?_;rintro e w3 ⟨⟨p3,rfl,hp3⟩,hb3⟩)
   | (go_at_call 56;refine (H2.out _ HS.out.below).mono ?_;rintro e w2 ⟨⟨q,rfl,hq⟩,hb2⟩;have HS2:=hidE (And.intro (HS.out.kept (hb2.trans ((below1' w2 (.cells #[.pointer q] 103)).mono hb2.size))) (And.intro (hq.below (below1' w2 (.cells #[.pointer q] 103))) (And.intro (RowIs.last (w:=w2) (t:=103) (f:=fun _=>.pointer q) (n:=1) (cs:=#[.pointer q]) rfl rfl) (Nat.lt_of_lt_of_le HS.out.c1.lt hb2.size))));clear hq hb2))
  have hS4:RwT w (w3.alloc (.cells #[.pointer p3] 103)) g w2.heap.size w3.heap.size p q p3 x y:=by
   have b:=hb3.trans ((below1' w3 (.cells #[.pointer p3] 103)).mono hb3.size)
   have c2:=HS2.out.2.2.1.cell (j:=0) (by omega)
   exact ⟨HS2.out.1.kept b,(b.cell (block_lt_of_cell c2)).trans c2,(cell_of_row _ _ _ _ _ _ (heap_alloc_new w3 _)).trans rfl,HS2.out.2.1.below b,hp3.below (below1' _ _)⟩
  have hg2:w.heap.size+1<w2.heap.size:=Nat.lt_trans hlt HS2.out.2.2.2
  have hg3:w.heap.size+1<w3.heap.size:=Nat.lt_of_lt_of_le (Nat.lt_succ_of_lt hg2) (by have:=hb3.size;simpa using this)
  clear HS HS2 hp3 hb3 H1 H2
  generalize w2.heap.size=g2 at hS4 hg2 ⊢
  generalize w3.heap.size=g3 at hS4 hg3 ⊢
  refine wp_region_held_drew (S:=fun W=>RwT w W g g2 g3 p q p3 x y) (by kernel_rfl) (hS4.kept (Below.refl _ _).drew) (fun hHeld=>?_)
  clear hS4
  generalize World.drew _=wD at hHeld ⊢
  refine tkf 0 25 (fun _ h=>h.c3) ?_
  refine tkf 2 27 (fun _ h=>h.s.cell) ?_
  refine rd 1 (some 26) rfl (fun K hK=>?_)
  go_simp
  refine (HL.out _ _ hHeld.tz).mono ?_
  rintro e w4 ⟨rfl,hb4⟩
  refine hK.out _ _ (hHeld.kept hb4) (fun hHeld=>?_)
  clear hK K hb4
  refine rd 3 (some 28) rfl (fun K hK=>?_)
  go_simp
  refine (HL.out _ _ hHeld.s.tx).mono ?_
  rintro e w5 ⟨rfl,hb5⟩
  refine hK.out _ _ (hHeld.kept hb5) (fun hHeld=>?_)
  clear hK K hb5
  refine tk0 4 29 ?_
  refine wdn ?_
  have HH:=hidE hHeld
  clear hHeld
  go_wp2_with fail
  refine wp_region_held_drew (S:=fun W=>RwT w W g g2 g3 p q p3 x y) (by kernel_rfl) (HH.out.kept (Below.refl _ _).drew) (fun hHeld=>?_)
  clear HH
  generalize World.drew _=wE at hHeld ⊢
  refine tkf 0 30 (fun _ h=>h.s.cell) ?_
  refine tkf 1 31 (fun _ h=>h.c2) ?_
  refine rd 2 none rfl (fun K hK=>?_)
  rw [if_pos (by rfl)]
  obtain ⟨f1,q1⟩:=hHeld.s.r1
  refine wp_store_row 103 (.tmp 8) (.tmp 30) rfl w.heap.size (rowOf 1 fun _=>.pointer p) rfl rfl _ _ q1 (by rw [rowOf_size];exact infoSet) (by simp only [rowOf_size]) (ptr1_one p) ?_
  have hS1:=hHeld.s.put1 hlt p
  refine hK.out _ _ ⟨hS1.1,cell_put hHeld.c2 (by omega) _,cell_put hHeld.c3 (by omega) _,hS1.2.2 _ _ hHeld.ty,hS1.2.2 _ _ hHeld.tz⟩ (fun hHeld=>?_)
  have hR1:=hS1.2.1
  clear hK K hS1 q1 f1
  generalize World.setRow _ _ _=wF at hHeld hR1 ⊢
  refine rd 3 none rfl (fun K hK=>?_)
  rw [if_pos (by rfl)]
  obtain ⟨f2,q2⟩:=hHeld.s.r2
  refine wp_store_row 103 (.tmp 9) (.tmp 31) rfl (w.heap.size+1) (rowOf 1 fun _=>.pointer q) rfl rfl _ _ q2 (by rw [rowOf_size];exact infoSet) (by simp only [rowOf_size]) (ptr1_one q) ?_
  have hS1:=hHeld.s.put2 hlt q
  have hR1:=hR1.setRowOther (g':=w.heap.size+1) (by omega) (rowOf 1 fun _=>.pointer q)
  refine hK.out _ _ ⟨hS1.1,cell_put hHeld.c2 (by omega) _,cell_put hHeld.c3 (by omega) _,hS1.2.2 _ _ hHeld.ty,hS1.2.2 _ _ hHeld.tz⟩ (fun hHeld=>?_)
  have hR2:=hS1.2.1
  clear hK K hS1 q2 f2
  generalize World.setRow _ _ _=wG at hHeld hR1 hR2 ⊢
  refine wdn ?_
  go_wp2_with fail
  exact bodyPost_ret (results_c2 Tryz.results67 _ _ _ _ _ _ _ _ _ _ rfl rfl hR1 hR2 Tryz.underlying103 Tryz.underlying103 rfl rfl (by rw [rowOf_size];exact infoSet) (by rw [rowOf_size];exact infoSet)) rfl ⟨⟨p,q,rfl,hHeld.s.tx,hHeld.ty⟩,hHeld.s.below⟩
theorem opn_ext {a b:Opn} (h1:a.kd=b.kd) (h2:a.cl=b.cl) (h3:a.ck=b.ck) (h4:a.st=b.st) (h5:a.rf=b.rf) (h6:a.ch=b.ch):a=b:=by
 cases a;cases b;dsimp only at *;subst h1 h2 h3 h4 h5 h6;rfl
theorem lists_at {xs ys:List Opn} (hl:xs.length=ys.length) (h:∀ j,j<xs.length→getO xs[j]?=getO ys[j]?):xs=ys:=
 List.ext_getElem hl fun j h1 h2=>by have:=h j h1;rw [List.getElem?_eq_getElem h1,List.getElem?_eq_getElem h2] at this;exact this
theorem slEq_any (xs ys:List Opn) (a b:Option Addr) (c d:Nat) (w:World) (hx:OpsIs w a xs) (hy:OpsIs w b ys) (hn:xs.length≤1000000):Calls Tryz.prog 113 #[.slice a xs.length c,.slice b ys.length d] w fun e w'=>(∃ r:Bool,e=.returned (.bool r)∧(r=true↔xs=ys))∧Below w.heap.size w w':=by
 by_cases hl:xs.length=ys.length
 ·have hl':((xs.length:Int) != (ys.length:Int))=false:=by simp [hl]
  have HX:=hid2 hx
  have HY:=hid2 hy
  have HL:=hid2 hl
  clear hx hy hl
  go_enter Tryz.func113,Tryz.ntmps113
  go_wp2_with fail
  go_loopw [13] (fun iv wr=>∃ i:Nat,i≤xs.length∧iv=.int .i64 i∧Hid (∀ j,j<i→getO xs[j]?=getO ys[j]?)∧Hid (Below w.heap.size w wr)) (fun iv _=>xs.length-(intOf iv).toNat)
  case atStart=>exact ⟨0,Nat.zero_le _,rfl,hid2 (fun j h=>absurd h (Nat.not_lt_zero _)),hid2 (Below.refl _ _)⟩
  case round=>
   obtain ⟨i,hi,rfl,HA,HB⟩:=hrel
   by_cases hlt:i<xs.length
   ·have li:(i:Int)<(xs.length:Int):=by omega
    have hlt2:i<ys.length:=by rw [← HL.out];exact hlt
    have li2:(i:Int)<(ys.length:Int):=by omega
    rcases HX.out with h0|⟨g,off,rfl,hO⟩
    ·subst h0;cases hlt
    rcases HY.out with h0|⟨g2,off2,rfl,hO2⟩
    ·subst h0;cases hlt2
    have HC:Hid (∀ W,Below w.heap.size w W→OpsAt W g off xs∧OpsAt W g2 off2 ys):=fun W h=>⟨hO.below h,hO2.below h⟩
    clear hO hO2
    have HR:Hid (∀ W,Below w.heap.size w W→Below w.heap.size w W.drew):=fun W h=>h.drew
    go_wp2_with fail
    refine wp_region_held_drew (S:=fun W=>Below w.heap.size w W) (by kernel_rfl) (HR.out _ HB.out) (fun hHeld=>?_)
    generalize World.drew _=wD at hHeld ⊢
    clear HB HR
    refine tk0 0 16 ?_
    refine tk0 1 17 ?_
    refine tk0 2 18 ?_
    refine tkf 3 19 (fun W h=>(HC.out W h).1.cells hlt) ?_
    refine tk0 4 20 ?_
    refine tk0 5 21 ?_
    refine tk0 6 22 ?_
    refine tkf 7 23 (fun W h=>(HC.out W h).2.cells hlt2) ?_
    by_cases he:xs[i]=ys[i]
    ·refine tk 8 24 rfl (Or.inl ⟨by rfl,fun w _=>by rw [he];go_simp;rfl⟩) hHeld ?_
     simp only [Act.put,ls1,ls2,ls3]
     refine wdn ?_
     have HE:=hid2 he
     clear he
     go_wp2_with fail
     go_roundw
     case rel=>exact ⟨i+1,hlt,by go_num,hid2 (fun j h=>by
      rcases Nat.lt_or_ge j i with q|q
      ·exact HA.out j q
      ·obtain rfl:j=i:=by omega
       rw [List.getElem?_eq_getElem hlt,List.getElem?_eq_getElem hlt2];exact HE.out),hid2 hHeld⟩
     case measure=>simp [intOf];omega
    ·refine tk 8 24 (v:=.bool true) rfl (Or.inl ⟨by rfl,fun w _=>by go_simp;intro h1 h2 h3 h4 h5 h6;exact he (opn_ext h1 h2 h3 h4 h5 h6)⟩) hHeld ?_
     simp only [Act.put,ls1,ls2,ls3]
     refine wdn ?_
     have HE:Hid (xs≠ys):=fun e=>he (by subst e;rfl)
     clear he
     go_wp2_with fail
     go_ret
     exact ⟨⟨false,rfl,fun h=>(by cases h),fun h=>absurd h HE.out⟩,hHeld⟩
   ·obtain rfl:i=xs.length:=by omega
    go_wp2_with fail
    go_ret
    exact ⟨⟨true,rfl,fun _=>lists_at HL.out HA.out,fun _=>rfl⟩,HB.out⟩
 ·have hl':((xs.length:Int) != (ys.length:Int))=true:=by simp;omega
  have HL:=hid2 hl
  clear hx hy hl
  go_enter Tryz.func113,Tryz.ntmps113
  go_wp2_with fail
  go_ret
  exact ⟨⟨false,rfl,fun h=>(by cases h),fun h=>absurd (by rw [h]) HL.out⟩,Below.refl _ _⟩
theorem son_inj {a b:List Int} (ha:Byt a) (hb:Byt b) (h:strOfNums a=strOfNums b):a=b:=by rw [← dl_son ha,← dl_son hb,h]
theorem byEq_any (xs ys:List Int) (u v:Value) (B C:Nat) (w:World) (hx:OwnB w B u xs) (hy:OwnB w C v ys) (bx:Byt xs) (hb:Byt ys):Calls Tryz.prog 114 #[u,v] w fun e w'=>(∃ r:Bool,e=.returned (.bool r)∧(r=true↔xs=ys))∧Below w.heap.size w w':=by
 have h1:=conv_own (L:=xs) hx.row
 have h2:=conv_own (L:=ys) hy.row
 go_enter Tryz.func114,Tryz.ntmps114
 go_wp2_with fail
 go_ret
 refine ⟨⟨_,rfl,?_⟩,Below.refl _ _⟩
 rw [beq_iff_eq,ByteArray.toList_eq,ByteArray.toList_eq]
 exact ⟨fun h=>son_inj bx hb (ByteArray.ext (Array.toList_inj.1 h)),fun h=>by rw [h]⟩
theorem infoU8e:(Tryz.prog.info? 5).map (fun i=>i.size)=some 1:=by kernel_rfl
theorem cellsU8:Tryz.prog.cellsOf 5=1:=by kernel_rfl
theorem eqU8 (d:Nat) (a x:Int) (W:World):(Op.equalIn (d+1) 5 (.int .u8 a) (.int .u8 x)).run Tryz.prog W=.ok (a==x) W:=by
 simp [Op.equalIn,underlying,Tryz.underlying5]
theorem partU8 (xs:Array Value) (j:Nat) (v:Value) (h:xs[j]?=some v) (W:World):(part 5 xs j).run Tryz.prog W=.ok v W:=by
 simp [part,isAgg,underlying,Tryz.underlying5,h]
theorem eqDigD (d:Nat) (a b c x y z:Int) (W:World):(Op.equalIn (d+1+1) 50 (.agg #[.int .u8 a,.int .u8 b,.int .u8 c]) (.agg #[.int .u8 x,.int .u8 y,.int .u8 z])).run Tryz.prog W=.ok (if a=x then if b=y then decide (c=z) else false else false) W:=by
 obtain ⟨i,hi,hs⟩:=Option.map_eq_some_iff.1 infoU8e
 rw [run_equalIn_array W (d+1) _ _ Tryz.underlying50 hi,cellsU8]
 have p1:=partU8 #[.int .u8 a,.int .u8 b,.int .u8 c] 0 _ rfl
 have p2:=partU8 #[.int .u8 a,.int .u8 b,.int .u8 c] 1 _ rfl
 have p3:=partU8 #[.int .u8 a,.int .u8 b,.int .u8 c] 2 _ rfl
 have p4:=partU8 #[.int .u8 x,.int .u8 y,.int .u8 z] 0 _ rfl
 have p5:=partU8 #[.int .u8 x,.int .u8 y,.int .u8 z] 1 _ rfl
 have p6:=partU8 #[.int .u8 x,.int .u8 y,.int .u8 z] 2 _ rfl
 simp [Op.eqItems,List.range_succ,eqU8,p1,p2,p3,p4,p5,p6,Result.andThen]
 by_cases h1:a=x<;>by_cases h2:b=y<;>by_cases h3:c=z<;>simp [h1,h2,h3]
theorem eqDigG (a b c x y z:Int) (W:World):(Op.equalIn 10000 50 (.agg #[.int .u8 a,.int .u8 b,.int .u8 c]) (.agg #[.int .u8 x,.int .u8 y,.int .u8 z])).run Tryz.prog W=.ok (if a=x then if b=y then decide (c=z) else false else false) W:=eqDigD 9998 a b c x y z W
def dO:DecidableEq Opn:=fun a b=>if h:a.kd=b.kd∧a.cl=b.cl∧a.ck=b.ck∧a.st=b.st∧a.rf=b.rf∧a.ch=b.ch then isTrue (by cases a;cases b;simp_all) else isFalse fun e=>h (e▸⟨rfl,rfl,rfl,rfl,rfl,rfl⟩)
def clashH (x y:Tr) (z:Option (List Int×List Int)):Option (List Int×List Int):=
 haveI:=dO
 if x.list=y.list then none else if chk (strOfNums x.txt)≠chk (strOfNums y.txt) then none else if x.txt≠y.txt then some (x.txt,y.txt) else z
def clashT:Tr→Tr→Option (List Int×List Int)
 | ⟨none⟩,y=>clashH .nil y none
 | ⟨some (m,rk,l,r)⟩,⟨none⟩=>clashH (.node m rk l r) .nil none
 | ⟨some (m,rk,l,r)⟩,⟨some (m',rk',l',r')⟩=>clashH (.node m rk l r) (.node m' rk' l' r') (haveI:=dO;if m≠m' then some (2::opB m,2::opB m') else match clashT l l' with
  | some z=>some z
  | none=>clashT r r')
def ClV (w:World) (B:Nat) (v1 v2:Value):Option (List Int×List Int)→Prop
 | none=>v1=.slice none 0 0∧v2=.slice none 0 0
 | some (p,q)=>OwnB w B v1 p∧OwnB w B v2 q∧p≠[]∧q≠[]
def ClC (f:FuncId) (x y:Tr) (R:Option (List Int×List Int)):Prop:=∀ (W:World) (px py:Option Addr),IsTr W (.pointer px) x→IsTr W (.pointer py) y→Env W→Calls Tryz.prog f #[.agg #[.pointer px],.agg #[.pointer py]] W fun e w'=>(∃ v1 v2,e=.returned (.tuple #[v1,v2])∧ClV w' W.heap.size v1 v2 R)∧Below W.heap.size W w'
theorem ClV.mono {w:World} {B B':Nat} {v1 v2:Value} {R:Option (List Int×List Int)} (h:ClV w B v1 v2 R) (hB:B'≤B):ClV w B' v1 v2 R:=by
 cases R with
 | none=>exact h
 | some z=>exact ⟨World.ownsRow.mono h.1 hB,World.ownsRow.mono h.2.1 hB,h.2.2⟩
structure ClS (w W:World) (px py:Option Addr):Prop where
 below:Below w.heap.size w W
 c1:W.cell? ⟨w.heap.size,0,none⟩=some (.pointer px)
 c2:W.cell? ⟨w.heap.size+1,0,none⟩=some (.pointer py)
theorem ClS.kept {w W W2:World} {px py:Option Addr} (h:ClS w W px py) (hb:Below W.heap.size W W2):ClS w W2 px py:=⟨h.below.trans (hb.mono h.below.size),(hb.cell (block_lt_of_cell h.c1)).trans h.c1,(hb.cell (block_lt_of_cell h.c2)).trans h.c2⟩
theorem ClS.new (w:World) (px py:Option Addr) (T:TypeId):ClS w ((w.alloc (.cells #[.pointer px] T)).alloc (.cells #[.pointer py] T)) px py:=by
 have c1:(w.alloc (.cells #[.pointer px] T)).cell? ⟨w.heap.size,0,none⟩=some (.pointer px):=(cell_of_row _ _ _ _ _ _ (heap_alloc_new w _)).trans rfl
 have c2:((w.alloc (.cells #[.pointer px] T)).alloc (.cells #[.pointer py] T)).cell? ⟨(w.alloc (.cells #[.pointer px] T)).heap.size,0,none⟩=some (.pointer py):=(cell_of_row _ _ _ _ _ _ (heap_alloc_new _ _)).trans rfl
 have hz:(w.alloc (.cells #[.pointer px] T)).heap.size=w.heap.size+1:=by simp
 rw [hz] at c2
 exact ⟨(below1' _ _).trans ((below1' _ _).mono (by simp)),((below1' _ _).cell (block_lt_of_cell c1)).trans c1,c2⟩
theorem ownO_ops {w:World} {B:Nat} {s:Value} {os:List Opn} (h:OwnO w B s os):∃ a c,s=.slice a os.length c∧OpsIs w a os:=by
 obtain ⟨a,c,rfl⟩:=ownO_form h
 refine ⟨a,c,rfl,?_⟩
 rcases h.2 with ⟨e,e1⟩|⟨g,cap,cur,e,_⟩
 ·exact Or.inl (List.length_eq_zero_iff.1 e1)
 ·have h2:=h
  rw [e] at h2
  cases e
  exact Or.inr ⟨g,0,rfl,OwnO.at0 h2⟩
theorem clash_gen (x y:Tr) (z:Option (List Int×List Int)) (hx:x.W) (hy:y.W) (hlx:x.list.length≤1000000) (hly:y.list.length≤1000000) (HZ:x.list≠y.list→x.txt=y.txt→ClC 115 x y z):ClC 66 x y (clashH x y z):=by
 intro w px py ix iy hE
 have HS0:=hidE (ClS.new w px py 103)
 have HI:=hidE (fun W (hW:Below w.heap.size w W)=>And.intro (ix.below hW) (And.intro (iy.below hW) (hE.below hW)))
 have HOx:Hid (∀ W,Below w.heap.size w W→Calls Tryz.prog 100 #[.agg #[.pointer px]] W fun e w'=>(∃ s,e=.returned s∧OwnO w' W.heap.size s x.list)∧Below W.heap.size W w'):=fun W hW=>sOps_any x _ W (HI.out W hW).1 hlx
 have HOy:Hid (∀ W,Below w.heap.size w W→Calls Tryz.prog 100 #[.agg #[.pointer py]] W fun e w'=>(∃ s,e=.returned s∧OwnO w' W.heap.size s y.list)∧Below W.heap.size W w'):=fun W hW=>sOps_any y _ W (HI.out W hW).2.1 hly
 have HTx:Hid (∀ W,Below w.heap.size w W→Calls Tryz.prog 103 #[.agg #[.pointer px]] W fun e w'=>∃ v',e=.returned v'∧OwnB w' W.heap.size v' x.txt∧Below W.heap.size W w'):=fun W hW=>text_any x _ W (HI.out W hW).1 hx (HI.out W hW).2.2
 have HTy:Hid (∀ W,Below w.heap.size w W→Calls Tryz.prog 103 #[.agg #[.pointer py]] W fun e w'=>∃ v',e=.returned v'∧OwnB w' W.heap.size v' y.txt∧Below W.heap.size W w'):=fun W hW=>text_any y _ W (HI.out W hW).2.1 hy (HI.out W hW).2.2
 clear ix iy hE
 go_enter Tryz.func66,Tryz.ntmps66
 go_wp2_with fail
 refine wp_region_held_drew (S:=fun W=>ClS w W px py) (by kernel_rfl) (HS0.out.kept (Below.refl _ _).drew) (fun hHeld=>?_)
 clear HS0
 generalize World.drew _=wD at hHeld ⊢
 refine tkf 0 8 (fun _ h=>h.c1) ?_
 refine tkf 2 10 (fun _ h=>h.c2) ?_
 refine rd 1 (some 9) rfl (fun K hK=>?_)
 go_simp
 refine (HOx.out _ hHeld.below).mono ?_
 rintro e w1 ⟨⟨s1,rfl,ho1⟩,hb1⟩
 refine hK.out _ _ (hHeld.kept hb1) (fun hHeld=>?_)
 clear hK K hb1
 refine rd 3 (some 11) rfl (fun K hK=>?_)
 go_simp
 refine (HOy.out _ hHeld.below).mono ?_
 rintro e w2 ⟨⟨s2,rfl,ho2⟩,hb2⟩
 refine hK.out _ _ (hHeld.kept hb2) (fun hHeld=>?_)
 have ho1:=ownO_keep ho1 hb2
 clear hK K hb2 HOx HOy
 obtain ⟨a1,c1,rfl,q1⟩:=ownO_ops ho1
 obtain ⟨a2,c2,rfl,q2⟩:=ownO_ops ho2
 refine rd 4 (some 12) rfl (fun K hK=>?_)
 go_simp
 refine (slEq_any x.list y.list a1 a2 c1 c2 _ q1 q2 hlx).mono ?_
 rintro e w3 ⟨⟨r,rfl,hr⟩,hb3⟩
 refine hK.out _ _ (hHeld.kept hb3) (fun hHeld=>?_)
 clear hK K hb3 q1 q2 ho1 ho2
 refine wdn ?_
 by_cases hl:x.list=y.list
 ·obtain rfl:r=true:=hr.2 hl
  have HC:Hid (clashH x y z=none):=hidE (by unfold clashH;rw [if_pos hl])
  clear hr hl
  go_wp2_with fail
  go_ret2
  exact ⟨⟨_,_,rfl,by rw [HC.out];exact ⟨rfl,rfl⟩⟩,hHeld.below⟩
 ·obtain rfl:r=false:=Bool.eq_false_iff.2 fun h=>hl (hr.1 h)
  clear hr
  have HL:=hidE hl
  have HH:=hidE hHeld
  clear hHeld hl
  go_wp2_with fail
  refine wp_region_held_drew (S:=fun W=>ClS w W px py) (by kernel_rfl) (HH.out.kept (Below.refl _ _).drew) (fun hHeld=>?_)
  clear HH
  generalize World.drew _=wE at hHeld ⊢
  refine tkf 0 13 (fun _ h=>h.c1) ?_
  refine tkf 2 15 (fun _ h=>h.c2) ?_
  refine rd 1 (some 14) rfl (fun K hK=>?_)
  go_simp
  refine (HTx.out _ hHeld.below).mono ?_
  rintro e w4 ⟨v4,rfl,ho4,hb4⟩
  have ho4:OwnB w4 w.heap.size v4 x.txt:=World.ownsRow.mono ho4 hHeld.below.size
  refine hK.out _ _ (hHeld.kept hb4) (fun hHeld=>?_)
  clear hK K hb4
  refine rd 3 (some 16) rfl (fun K hK=>?_)
  go_simp
  refine (HTy.out _ hHeld.below).mono ?_
  rintro e w5 ⟨v5,rfl,ho5,hb5⟩
  have ho5:OwnB w5 w.heap.size v5 y.txt:=World.ownsRow.mono ho5 hHeld.below.size
  have ho4:=ho4.keep hb5
  refine hK.out _ _ (hHeld.kept hb5) (fun hHeld=>?_)
  clear hK K hb5 HTx HTy
  refine rdg 4 (some 6) ?_
  refine rdg 5 (some 7) ?_
  refine wdn ?_
  have HA:=hidE (And.intro hHeld (And.intro ho4 ho5))
  have hex0:=eqDigG (dig (strOfNums x.txt) 0) (dig (strOfNums x.txt) 1) (dig (strOfNums x.txt) 2) (dig (strOfNums y.txt) 0) (dig (strOfNums y.txt) 1) (dig (strOfNums y.txt) 2)
  have HSx:Hid (∀ W,Below w5.heap.size w5 W→Calls Tryz.prog 102 #[v4] W fun e w'=>e=.returned (.agg #[.int .u8 (dig (strOfNums x.txt) 0),.int .u8 (dig (strOfNums x.txt) 1),.int .u8 (dig (strOfNums x.txt) 2)])∧Below W.heap.size W w'):=fun W hW=>dshort_own (HI.out _ (hHeld.below.trans (hW.mono hHeld.below.size))).2.2 (ho4.keep hW) (fun e=>by have:=x.txt_len;rw [e] at this;exact absurd this.1 (by decide)) x.txt_byt (by have:=x.txt_len;omega)
  have HSy:Hid (∀ W,Below w5.heap.size w5 W→Calls Tryz.prog 102 #[v5] W fun e w'=>e=.returned (.agg #[.int .u8 (dig (strOfNums y.txt) 0),.int .u8 (dig (strOfNums y.txt) 1),.int .u8 (dig (strOfNums y.txt) 2)])∧Below W.heap.size W w'):=fun W hW=>dshort_own (HI.out _ (hHeld.below.trans (hW.mono hHeld.below.size))).2.2 (ho5.keep hW) (fun e=>by have:=y.txt_len;rw [e] at this;exact absurd this.1 (by decide)) y.txt_byt (by have:=y.txt_len;omega)
  clear hHeld ho4 ho5
  by_cases hd:chk (strOfNums x.txt)=chk (strOfNums y.txt)
  ·have hex:∀ W,(Op.equalIn 10000 50 (.agg #[.int .u8 (dig (strOfNums x.txt) 0),.int .u8 (dig (strOfNums x.txt) 1),.int .u8 (dig (strOfNums x.txt) 2)]) (.agg #[.int .u8 (dig (strOfNums y.txt) 0),.int .u8 (dig (strOfNums y.txt) 1),.int .u8 (dig (strOfNums y.txt) 2)])).run Tryz.prog W=.ok true W:=fun W=>by
    have h:=hd
    unfold chk at h
    simp only [List.cons.injEq] at h
    rw [hex0 W,if_pos h.1,if_pos h.2.1,decide_eq_true h.2.2.1]
   have HD0:=hidE hd
   clear hd hex0
   have HEq:Hid (∀ W,Below w5.heap.size w5 W→Calls Tryz.prog 114 #[v4,v5] W fun e w'=>(∃ r:Bool,e=.returned (.bool r)∧(r=true↔x.txt=y.txt))∧Below W.heap.size W w'):=fun W hW=>byEq_any x.txt y.txt v4 v5 _ _ W (HA.out.2.1.keep hW) (HA.out.2.2.keep hW) x.txt_byt y.txt_byt
   by_cases ht:x.txt=y.txt
   ·have HC:Hid (clashH x y z=z):=hidE (by unfold clashH;rw [if_neg HL.out,if_neg (by rw [ht];simp),if_neg (by rw [ht];simp)])
    have HW:=hidE (HZ HL.out ht)
    have HT:=hidE ht
    clear ht HZ
    go_wp2_with (first
     | (go_at_call 102;have hq:=HB6;clear hq;refine (HSy.out _ HB6.out).mono ?_;rintro e w7 ⟨rfl,hb7⟩;have HB7:=hidE (HB6.out.trans (hb7.mono HB6.out.size));clear hb7)
     | (go_at_call 102;refine (HSx.out _ (Below.refl _ _)).mono ?_;rintro e w6 ⟨rfl,hb6⟩;have HB6:=hidE hb6;clear hb6)
     | (go_at_call 114;refine (HEq.out _ HB7.out).mono ?_;rintro e w8 ⟨⟨r,rfl,hr⟩,hb8⟩;obtain rfl:r=true:=hr.2 HT.out;have HB8:=hidE (HA.out.1.kept (HB7.out.trans (hb8.mono HB7.out.size)));have k1:=HB8.out.c1;have k2:=HB8.out.c2;clear hb8 hr)
     | (go_at_call 115;refine (HW.out _ _ _ (HI.out _ HB8.out.below).1 (HI.out _ HB8.out.below).2.1 (HI.out _ HB8.out.below).2.2).mono ?_;rintro e w9 ⟨⟨v1,v2,rfl,hv⟩,hb9⟩))
    go_ret2
    exact ⟨⟨_,_,rfl,by rw [HC.out];exact hv.mono HB8.out.below.size⟩,HB8.out.below.trans (hb9.mono HB8.out.below.size)⟩
   ·have HC:Hid (clashH x y z=some (x.txt,y.txt)):=hidE (by unfold clashH;rw [if_neg HL.out,if_neg (by rw [HD0.out];simp),if_pos ht])
    have HT:=hidE ht
    clear ht HZ
    go_wp2_with (first
     | (go_at_call 102;have hq:=HB6;clear hq;refine (HSy.out _ HB6.out).mono ?_;rintro e w7 ⟨rfl,hb7⟩;have HB7:=hidE (HB6.out.trans (hb7.mono HB6.out.size));clear hb7)
     | (go_at_call 102;refine (HSx.out _ (Below.refl _ _)).mono ?_;rintro e w6 ⟨rfl,hb6⟩;have HB6:=hidE hb6;clear hb6)
     | (go_at_call 114;refine (HEq.out _ HB7.out).mono ?_;rintro e w8 ⟨⟨r,rfl,hr⟩,hb8⟩;obtain rfl:r=false:=Bool.eq_false_iff.2 fun h=>HT.out (hr.1 h);have HB8:=hidE (And.intro (HA.out.1.kept (HB7.out.trans (hb8.mono HB7.out.size))) (HB7.out.trans (hb8.mono HB7.out.size)));clear hb8 hr))
    go_ret2
    exact ⟨⟨_,_,rfl,by rw [HC.out];exact ⟨HA.out.2.1.keep HB8.out.2,HA.out.2.2.keep HB8.out.2,fun e=>by have:=x.txt_len;rw [e] at this;exact absurd this.1 (by decide),fun e=>by have:=y.txt_len;rw [e] at this;exact absurd this.1 (by decide)⟩⟩,HB8.out.1.below⟩
  ·have HC:Hid (clashH x y z=none):=hidE (by unfold clashH;rw [if_neg HL.out,if_pos hd])
   have hex:∀ W,(Op.equalIn 10000 50 (.agg #[.int .u8 (dig (strOfNums x.txt) 0),.int .u8 (dig (strOfNums x.txt) 1),.int .u8 (dig (strOfNums x.txt) 2)]) (.agg #[.int .u8 (dig (strOfNums y.txt) 0),.int .u8 (dig (strOfNums y.txt) 1),.int .u8 (dig (strOfNums y.txt) 2)])).run Tryz.prog W=.ok false W:=fun W=>by
    rw [hex0 W]
    split
    ·split
     ·rename_i h1 h2
      rw [decide_eq_false fun h3=>hd (by unfold chk;rw [h1,h2,h3])]
     ·rfl
    ·rfl
   clear hd hex0
   generalize strOfNums x.txt=sx at *
   generalize strOfNums y.txt=sy at *
   go_wp2_with (first
    | (go_at_call 102;have hq:=HB6;clear hq;refine (HSy.out _ HB6.out).mono ?_;rintro e w7 ⟨rfl,hb7⟩;have HB7:=hidE (HB6.out.trans (hb7.mono HB6.out.size));clear hb7)
    | (go_at_call 102;refine (HSx.out _ (Below.refl _ _)).mono ?_;rintro e w6 ⟨rfl,hb6⟩;have HB6:=hidE hb6;clear hb6))
   go_ret2
   exact ⟨⟨_,_,rfl,by rw [HC.out];exact ⟨rfl,rfl⟩⟩,HA.out.1.below.trans (HB7.out.mono HA.out.1.below.size)⟩
structure CwS (w W:World) (g1 g2:Nat) (p q p' q':Option Addr) (m m':Opn) (l r l' r':Tr):Prop where
 below:Below w.heap.size w W
 x1:Res3 W g1 103 43 p m q
 x2:Res3 W g2 103 43 p' m' q'
 tl:IsTr W (.pointer p) l
 tr:IsTr W (.pointer q) r
 tl':IsTr W (.pointer p') l'
 tr':IsTr W (.pointer q') r'
 env:Env W
theorem CwS.kept {w W W2:World} {g1 g2:Nat} {p q p' q':Option Addr} {m m':Opn} {l r l' r':Tr} (h:CwS w W g1 g2 p q p' q' m m' l r l' r') (hb:Below W.heap.size W W2):CwS w W2 g1 g2 p q p' q' m m' l r l' r':=⟨h.below.trans (hb.mono h.below.size),h.x1.kept hb,h.x2.kept hb,h.tl.below hb,h.tr.below hb,h.tl'.below hb,h.tr'.below hb,h.env.below hb⟩
theorem ClV.keep {w w':World} {B:Nat} {v1 v2:Value} {R:Option (List Int×List Int)} (h:ClV w B v1 v2 R) (hb:Below w.heap.size w w'):ClV w' B v1 v2 R:=by
 cases R with
 | none=>exact h
 | some z=>exact ⟨h.1.keep hb,h.2.1.keep hb,h.2.2⟩
def clashI (m m':Opn) (a b:Option (List Int×List Int)):Option (List Int×List Int):=haveI:=dO;if m≠m' then some (2::opB m,2::opB m') else match a with
 | some z=>some z
 | none=>b
theorem clashIn_any (m m':Opn) (rk rk':Int) (l r l' r':Tr) (A B:Option (List Int×List Int)) (hA:ClC 66 l l' A) (hB:ClC 66 r r' B) (hm:OpW m∧(m.kd=1∨m.kd=2)) (hm':OpW m'∧(m'.kd=1∨m'.kd=2)):ClC 115 (.node m rk l r) (.node m' rk' l' r') (clashI m m' A B):=by
 intro w px py ix iy hE
 have HS0:=hidE (ClS.new w px py 103)
 have a1:=HS0.out.c1
 have HPx:=hidE (sParts_any _ (.pointer px) _ (ix.below HS0.out.below))
 have HPy:=hidE (fun W (hW:Below w.heap.size w W)=>sParts_any _ (.pointer py) W (iy.below hW))
 have HE:=hidE hE
 have HA:=hidE hA
 have HB:=hidE hB
 clear ix iy hE hA hB
 go_enter Tryz.func115,Tryz.ntmps115
 go_upto_region 3 with (first
  | (go_at_call 177;have hq:=HX1;clear hq;refine (HPy.out _ HX1.out.1.below).mono ?_;rintro e w2 ⟨hb2,p',q',hP,hp,hq⟩;obtain rfl:e=.returned (.tuple #[.agg #[.pointer p'],.agg #[.int .i64 m'.kd,.int .u32 m'.cl,.int .u32 m'.ck,.int .u32 m'.st,.int .u64 m'.rf,.int .i32 m'.ch],.agg #[.pointer q'],.bool true]):=hP;have HX2:=hidE (And.intro hb2 (And.intro hp hq));clear hb2 hp hq)
  | (go_at_call 177;refine HPx.out.mono ?_;rintro e w1 ⟨hb1,p,q,hP,hp,hq⟩;obtain rfl:e=.returned (.tuple #[.agg #[.pointer p],.agg #[.int .i64 m.kd,.int .u32 m.cl,.int .u32 m.ck,.int .u32 m.st,.int .u64 m.rf,.int .i32 m.ch],.agg #[.pointer q],.bool true]):=hP;obtain ⟨mb,mx,mz⟩:=Res3.mk3 w1 103 43 p m q;have hS1:=(HS0.out.kept hb1).kept mb;have HX1:=hidE (And.intro hS1 (And.intro mx (And.intro (hp.below mb) (hq.below mb))));have a2:=hS1.c2;clear hb1 hp hq mb mx mz hS1 a1))
 obtain ⟨mb,mx,mz⟩:=Res3.mk3 w2 103 43 p' m' q'
 have hb:=HX2.out.1.trans (mb.mono HX2.out.1.size)
 have hW:CwS w _ w1.heap.size w2.heap.size p q p' q' m m' l r l' r':=⟨HX1.out.1.below.trans (hb.mono HX1.out.1.below.size),HX1.out.2.1.kept hb,mx,HX1.out.2.2.1.below hb,HX1.out.2.2.2.below hb,HX2.out.2.1.below mb,HX2.out.2.2.below mb,HE.out.below (HX1.out.1.below.trans (hb.mono HX1.out.1.below.size))⟩
 have HW:=hidE hW
 clear hW mb mx mz hb HX1 HX2 HPx HPy HS0 HE a2
 generalize World.alloc (World.alloc (World.alloc w2 _) _) _=W2 at HW ⊢
 have d1:=HW.out.x1.c2
 have d2:=HW.out.x2.c2
 refine wp_region_lit ?_
 refine wpList_val rfl (.agg #[.int .i64 m.kd,.int .u32 m.cl,.int .u32 m.ck,.int .u32 m.st,.int .u64 m.rf,.int .i32 m.ch]) (by obtain ⟨c0,c1,c2,c3,c4,c5⟩:=d1;go_simp) ?_
 refine wpList_val rfl (.agg #[.int .i64 m'.kd,.int .u32 m'.cl,.int .u32 m'.ck,.int .u32 m'.st,.int .u64 m'.rf,.int .i32 m'.ch]) (by obtain ⟨c0,c1,c2,c3,c4,c5⟩:=d2;go_simp) ?_
 simp only [Act.put,ls1,ls2,ls3]
 by_cases he:m=m'
 ·subst he
  refine wpList_val rfl (.bool false) (by go_simp) ?_
  simp only [Act.put,ls1,ls2,ls3]
  have HC:Hid (clashI m m A B=match A with|some z=>some z|none=>B):=hidE (by unfold clashI;rw [if_neg (by simp)];cases A<;>rfl)
  have k1:=HW.out.x1.c1
  have k2:=HW.out.x2.c1
  clear d1 d2
  cases A with
  | none=>
   go_wp2_with (first
    | (go_at_call 66;have hq:=HY;clear hq;refine (HB.out _ _ _ HY.out.tr HY.out.tr' HY.out.env).mono ?_;rintro e w4 ⟨⟨v3,v4,rfl,hv4⟩,hb4⟩)
    | (go_at_call 66;refine (HA.out _ _ _ HW.out.tl HW.out.tl' HW.out.env).mono ?_;rintro e w3 ⟨⟨v1,v2,rfl,hv3,hv3'⟩,hb3⟩;subst hv3 hv3';have HY:=hidE (HW.out.kept hb3);have k3:=HY.out.x1.c3;have k4:=HY.out.x2.c3;clear hb3 k1 k2))
   go_ret2
   exact ⟨⟨_,_,rfl,by rw [HC.out];exact hv4.mono HY.out.below.size⟩,HY.out.below.trans (hb4.mono HY.out.below.size)⟩
  | some z=>
   go_wp2_with (go_at_call 66;refine (HA.out _ _ _ HW.out.tl HW.out.tl' HW.out.env).mono ?_;rintro e w3 ⟨⟨v1,v2,rfl,hv3⟩,hb3⟩;obtain ⟨gz,cz,rfl,-⟩:=hv3.1.view hv3.2.2.1)
   go_ret2
   exact ⟨⟨_,_,rfl,by rw [HC.out];exact ClV.mono (R:=some z) hv3 HW.out.below.size⟩,HW.out.below.trans (hb3.mono HW.out.below.size)⟩
 ·refine wpList_val rfl (.bool true) (by go_simp;intro h1 h2 h3 h4 h5 h6;exact he (opn_ext h1 h2 h3 h4 h5 h6)) ?_
  simp only [Act.put,ls1,ls2,ls3]
  have HC:Hid (clashI m m' A B=some (2::opB m,2::opB m')):=hidE (by unfold clashI;rw [if_pos he])
  clear d1 d2 he HA HB
  have HM:=hidE (middle_any m hm.1 hm.2)
  have HM':=hidE (middle_any m' hm'.1 hm'.2)
  go_wp2_with fail
  refine wp_region_held_drew (S:=fun W=>CwS w W w1.heap.size w2.heap.size p q p' q' m m' l r l' r') (by kernel_rfl) (HW.out.kept (Below.refl _ _).drew) (fun hHeld=>?_)
  clear HW
  generalize World.drew _=wE at hHeld ⊢
  refine tkf 0 33 (fun _ h=>h.x1.c2) ?_
  refine tkf 2 35 (fun _ h=>h.x2.c2) ?_
  refine rd 1 (some 34) rfl (fun K hK=>?_)
  go_simp
  refine (HM.out _).mono ?_
  rintro e w4 ⟨v4,rfl,ho4,hb4⟩
  have ho4:OwnB w4 w.heap.size v4 (2::opB m):=World.ownsRow.mono ho4 hHeld.below.size
  refine hK.out _ _ (hHeld.kept hb4) (fun hHeld=>?_)
  clear hK K hb4
  refine rd 3 (some 36) rfl (fun K hK=>?_)
  go_simp
  refine (HM'.out _).mono ?_
  rintro e w5 ⟨v5,rfl,ho5,hb5⟩
  have ho5:OwnB w5 w.heap.size v5 (2::opB m'):=World.ownsRow.mono ho5 hHeld.below.size
  have ho4:=ho4.keep hb5
  refine hK.out _ _ (hHeld.kept hb5) (fun hHeld=>?_)
  clear hK K hb5
  refine rdg 4 (some 4) ?_
  refine rdg 5 (some 5) ?_
  refine wdn ?_
  go_wp2_with fail
  go_ret2
  exact ⟨⟨_,_,rfl,by rw [HC.out];exact ⟨ho4,ho5,by simp,by simp⟩⟩,hHeld.below⟩
theorem clash_any:∀ (x y:Tr),x.W→y.W→x.list.length≤1000000→y.list.length≤1000000→ClC 66 x y (clashT x y)
 | ⟨none⟩,y,hx,hy,h1,h2=>by
  unfold clashT
  refine clash_gen .nil y none hx hy h1 h2 fun hl ht=>?_
  cases y using Tr.cs with
  | nil=>exact absurd rfl hl
  | node m rk l r=>simp [Tr.txt] at ht
 | ⟨some (m,rk,l,r)⟩,⟨none⟩,hx,hy,h1,h2=>by
  unfold clashT
  refine clash_gen _ .nil none hx hy h1 h2 fun hl ht=>?_
  simp [Tr.txt] at ht
 | ⟨some (m,rk,l,r)⟩,⟨some (m',rk',l',r')⟩,hx,hy,h1,h2=>by
  have q1:(l.list++m::r.list).length≤1000000:=h1
  have q2:(l'.list++m'::r'.list).length≤1000000:=h2
  simp only [List.length_append,List.length_cons] at q1 q2
  unfold clashT
  exact clash_gen _ _ _ hx hy h1 h2 fun _ _=>clashIn_any m m' rk rk' l r l' r' _ _ (clash_any l l' hx.2.1 hy.2.1 (by omega) (by omega)) (clash_any r r' hx.2.2 hy.2.2 (by omega) (by omega)) hx.1 hy.1
theorem rClash_any (lo hi:Int) (b1 b2:Nat) (cl1 ss1 cl2 ss2:Int) (top1 vW1 vK1 top2 vW2 vK2:Value) (t1 t2:Tr) (w:World) (h1:RowIs w b1 118 7 (rep7 0 cl1 top1 vW1 ss1 vK1)) (hI1:IsTr w top1 t1) (ht1:t1.T) (h2:RowIs w b2 118 7 (rep7 0 cl2 top2 vW2 ss2 vK2)) (hI2:IsTr w top2 t2) (ht2:t2.T) (hE:Env w) (hs1:t1.list.length≤1000000) (hs2:t2.list.length≤1000000) (hb1:ByKey t1.list) (hb2:ByKey t2.list) (hW1:∀ x∈t1.list,OpW x∧(x.kd=1∨x.kd=2)) (hW2:∀ x∈t2.list,OpW x∧(x.kd=1∨x.kd=2)) :
  Calls Tryz.prog 38 #[.pointer (some ⟨b1,0,none⟩),.pointer (some ⟨b2,0,none⟩),.int .u64 lo,.int .u64 hi] w fun e w'=>(∃ v1 v2,e=.returned (.tuple #[v1,v2])∧ClV w' w.heap.size v1 v2 (clashT (t1.rng lo hi) (t2.rng lo hi)))∧Below w.heap.size w w':=by
 have l:∀ (t:Tr),ByKey t.list→t.list.length≤1000000→(t.rng lo hi).list.length≤1000000:=fun t hb h=>by
  unfold Tr.rng
  have c1:=(cut_list lo t hb).2
  have hb2:ByKey (t.cut lo).2.list:=by rw [c1];exact hb.sublist List.filter_sublist
  rw [(cut_list hi _ hb2).1,c1]
  exact Nat.le_trans (List.length_filter_le _ _) (Nat.le_trans (List.length_filter_le _ _) h)
 have q1:=l t1 hb1 hs1
 have q2:=l t2 hb2 hs2
 have HR:=hidE (rangesWith_any lo hi b1 b2 cl1 ss1 cl2 ss2 top1 vW1 vK1 top2 vW2 vK2 t1 t2 w h1 hI1 ht1 h2 hI2 ht2 (by rw [← Tr.list_len];exact q1))
 have HC:=hidE (clash_any (t1.rng lo hi) (t2.rng lo hi) (Tr.W_of fun x hx=>hW1 x (rng_mem hx)) (Tr.W_of fun x hx=>hW2 x (rng_mem hx)) q1 q2)
 have HE:=hidE hE
 clear l q1 q2 h1 hI1 ht1 h2 hI2 ht2 hE hs1 hs2 hb1 hb2 hW1 hW2
 generalize t1.rng lo hi=x at *
 generalize t2.rng lo hi=y at *
 go_enter Tryz.func38,Tryz.ntmps38
 go_wp2_with (first
  | (go_at_call 67;refine HR.out.mono ?_;rintro e w1 ⟨⟨p,q,rfl,hp,hq⟩,hb1⟩;have H1:=hidE (And.intro hb1 (And.intro hp hq));clear hb1 hp hq)
  | (go_at_call 66;refine (HC.out _ _ _ H1.out.2.1 H1.out.2.2 (HE.out.below H1.out.1)).mono ?_;rintro e w2 ⟨⟨v1,v2,rfl,hv⟩,hb2⟩))
 go_ret2
 exact ⟨⟨_,_,rfl,hv.mono H1.out.1.size⟩,H1.out.1.trans (hb2.mono H1.out.1.size)⟩
theorem Tr.one:∀ {x y:Tr},x.H→y.H→x.list=y.list→x=y
 | ⟨none⟩,⟨none⟩,_,_,_=>rfl
 | ⟨none⟩,⟨some (o,rk,l,r)⟩,_,_,h=>by simp [Tr.list] at h
 | ⟨some (o,rk,l,r)⟩,⟨none⟩,_,_,h=>by simp [Tr.list] at h
 | ⟨some (o,rk,l,r)⟩,⟨some (o',rk',l',r')⟩,⟨h0,h1,h2,h3,h4⟩,⟨k0,k1,k2,k3,k4⟩,h=>by
  replace h:l.list++o::r.list=l'.list++o'::r'.list:=h
  have hl:l'.list.length=l.list.length:=by
   have hb:l'.list.length<(l.list++o::r.list).length:=by rw [h];simp
   have e:getO (l.list++o::r.list)[l'.list.length]?=o':=by rw [h,getO_at (by simp)];simp
   have ex:∀ j,j<(l.list++o::r.list).length→getO (l.list++o::r.list)[j]?∈l.list++o::r.list:=fun j hj=>by rw [getO_at hj];exact List.getElem_mem hj
   refine mid_one h1 h2 hb (fun j hj=>?_) (fun j hj1 hj2=>?_)
   ·rw [e]
    have:=ex j hj
    rw [h] at this
    rcases List.mem_append.1 this with q|q
    ·rw [← h] at q;exact k1 _ q
    ·rcases List.mem_cons.1 q with q|q
     ·rw [← h] at q;rw [q];exact Int.le_refl _
     ·rw [← h] at q;exact Int.le_of_lt (k2 _ q)
   ·rw [e]
    have hx:getO (l.list++o::r.list)[j]?∈r'.list:=by
     rw [h]
     rw [h] at hj2
     obtain ⟨d,rfl⟩:∃ d,j=l'.list.length+(d+1):=⟨j-l'.list.length-1,by omega⟩
     rw [List.getElem?_append_right (by omega),show l'.list.length+(d+1)-l'.list.length=d+1 by omega,List.getElem?_cons_succ]
     have hd:d<r'.list.length:=by simp at hj2;omega
     rw [getO_at hd]
     exact List.getElem_mem hd
    exact k2 _ hx
  obtain ⟨e1,e2⟩:=List.append_inj h hl.symm
  obtain ⟨e3,e4⟩:=List.cons.inj e2
  obtain rfl:=Tr.one h3 k3 e1
  obtain rfl:=Tr.one h4 k4 e4
  subst e3
  rw [h0,k0]
end Go.Proofs.YtgccjefbedpmpaaGreatDoor

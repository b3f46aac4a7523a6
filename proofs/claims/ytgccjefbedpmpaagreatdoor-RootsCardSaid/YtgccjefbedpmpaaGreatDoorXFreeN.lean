import Derived.Test.YtgccjefbedpmpaaGreatDoorXFree
import Derived.Test.YtgccjefbedpmpaaGreatDoorXStepW6
namespace Go.Proofs.YtgccjefbedpmpaaGreatDoor
open Go.RowKit Go.ChangeShapes Go.WideShapes Go.Deep
set_option maxRecDepth 100000
set_option maxHeartbeats 8000000
theorem infoU8e:(Tryz.prog.info? 5).map (fun i=>i.size)=some 1:=by kernel_rfl
theorem cellsU8:Tryz.prog.cellsOf 5=1:=by kernel_rfl
theorem eqU8 (d:Nat) (a x:Int) (W:World):(Op.equalIn (d+1) 5 (.int .u8 a) (.int .u8 x)).run Tryz.prog W=.ok (a==x) W:=by
 simp [Op.equalIn,underlying,Tryz.underlying5]
theorem partU8 (xs:Array Value) (j:Nat) (v:Value) (h:xs[j]?=some v) (W:World):(part 5 xs j).run Tryz.prog W=.ok v W:=by
 simp [part,isAgg,underlying,Tryz.underlying5,h]
theorem eqDigD (d:Nat) (a b c x y z:Int) (W:World):(Op.equalIn (d+1+1) 50 (.agg #[.int .u8 a,.int .u8 b,.int .u8 c]) (.agg #[.int .u8 x,.int .u8 y,.int .u8 z])).run Tryz.prog W=.ok (if a=x then if b=y then decide (c=z) else false else false) W:=by
 obtain ⟨i,hi,hs⟩:=Option.map_eq_some_iff.1 infoU8e
 rw [run_equalIn_array W (d+1) _ _ Tryz.underlying50 hi,cellsU8]
 have p1:=partU8 #[.int .u8 a,.int .u8 b,.int .u8 c] 0 _ rfl
 have p2:=partU8 #[.int .u8 a,.int .u8 b,.int .u8 c] 1 _ rfl
 have p3:=partU8 #[.int .u8 a,.int .u8 b,.int .u8 c] 2 _ rfl
 have p4:=partU8 #[.int .u8 x,.int .u8 y,.int .u8 z] 0 _ rfl
 have p5:=partU8 #[.int .u8 x,.int .u8 y,.int .u8 z] 1 _ rfl
 have p6:=partU8 #[.int .u8 x,.int .u8 y,.int .u8 z] 2 _ rfl
 simp [Op.eqItems,List.range_succ,eqU8,p1,p2,p3,p4,p5,p6,Result.andThen]
 by_cases h1:a=x<;>by_cases h2:b=y<;>by_cases h3:c=z<;>simp [h1,h2,h3]
theorem eqDigG (a b c x y z:Int) (W:World):(Op.equalIn 10000 50 (.agg #[.int .u8 a,.int .u8 b,.int .u8 c]) (.agg #[.int .u8 x,.int .u8 y,.int .u8 z])).run Tryz.prog W=.ok (if a=x then if b=y then decide (c=z) else false else false) W:=eqDigD 9998 a b c x y z W
theorem eqDigR (a b c:Int) (W:World):(Op.equalIn 10000 50 (.agg #[.int .u8 a,.int .u8 b,.int .u8 c]) (.agg #[.int .u8 a,.int .u8 b,.int .u8 c])).run Tryz.prog W=.ok true W:=by
 rw [eqDigG];simp
theorem ok_W {o:Opn} (h:o.ok=true):OpW o∧(o.kd=1∨o.kd=2):=⟨okOp_w h (ok_rf h),ok_kinds h⟩
theorem stepRoot (n:Int) (o:Opn) (at' ch:Int) (x2 x3 x4 x5 x6 x7 x8 x9 x10 x11 x18:Value) (lo hl:Int) (hnb:-9223372036854775808≤n∧n≤9223372036854775807) (wd:Nat) (vP vH:Value) (F:Nat→Prop) (hs ps:List Nat) (Gs:Nat→Nat→Prop) (B:Nat) (w:World) (HH:WW B w wd vP vH F hs ps Gs) (hpl:1≤ps.length) :
  Calls Tryz.prog 43 #[.pointer (some ⟨wd,0,none⟩),.agg #[.int .i64 10,.int .i64 n,x2,x3,x4,x5,x6,x7,x8,x9,x10,x11,.int .i64 o.kd,.int .u32 o.cl,.int .u32 o.ck,.int .u32 o.st,.int .u64 o.rf,.int .i32 o.ch,x18,.int .i64 at',.int .i32 ch,.int .u64 lo,.int .u64 hl]] w fun e w'=>e=.returned (.bool true)∧WW B w' wd vP vH F hs ps Gs∧Below B w w':=by
 obtain ⟨gP,cP,rfl⟩:∃ gP cP,vP=.slice (some ⟨gP,0,none⟩) ps.length cP:=by
  rcases HH.own.2 with ⟨e,e1⟩|⟨g,cap,cur,e,_⟩
  ·omega
  ·exact ⟨g,cap,e⟩
 have HW:=hid2 HH
 have HPs:Hid (∀ i (hi:i<ps.length) W,Below w.heap.size w W→W.cell? ⟨gP,i,none⟩=some (.pointer (some ⟨ps[i],0,none⟩))):=fun i hi W hW=>by
  have h:=World.ownsRow.cellAt (HW.out.below hW).own i (by omega)
  rw [h]
  unfold ptrs
  rw [List.getElem?_map,List.getElem?_eq_getElem hi]
  rfl
 have HB0:=hid2 (below1' w (.cells #[.int .i64 10,.int .i64 n,x2,x3,x4,x5,x6,x7,x8,x9,x10,x11,.int .i64 o.kd,.int .u32 o.cl,.int .u32 o.ck,.int .u32 o.st,.int .u64 o.rf,.int .i32 o.ch,x18,.int .i64 at',.int .i32 ch,.int .u64 lo,.int .u64 hl] 85))
 have HX0:Hid (RowIs (w.alloc (.cells #[.int .i64 10,.int .i64 n,x2,x3,x4,x5,x6,x7,x8,x9,x10,x11,.int .i64 o.kd,.int .u32 o.cl,.int .u32 o.ck,.int .u32 o.st,.int .u64 o.rf,.int .i32 o.ch,x18,.int .i64 at',.int .i32 ch,.int .u64 lo,.int .u64 hl] 85)) w.heap.size 85 23 (opX 10 n o at' ch x2 x3 x4 x5 x6 x7 x8 x9 x10 x11 x18 (.int .u64 lo) (.int .u64 hl))):=RowIs.last rfl (opX_row 10 n o at' ch x2 x3 x4 x5 x6 x7 x8 x9 x10 x11 x18 (.int .u64 lo) (.int .u64 hl))
 have c72:=(HW.out.below HB0.out).ok.row.cell (j:=72) (by omega)
 simp only [wcell] at c72
 have hlen:((ps.length:Int)==0)=false:=by simp only [beq_eq_false_iff_ne];omega
 clear HH
 go_enter Tryz.func43,Tryz.ntmps43
 go_wp2_with fail
 refine wp_region_held_drew (S:=fun W=>Below w.heap.size w W∧RowIs W w.heap.size 85 23 (opX 10 n o at' ch x2 x3 x4 x5 x6 x7 x8 x9 x10 x11 x18 (.int .u64 lo) (.int .u64 hl))) (by kernel_rfl) ⟨HB0.out.trans ((Below.refl _ _).drew.mono HB0.out.size),HX0.out.drew⟩ (fun hHeld=>?_)
 clear HB0 HX0 c72
 generalize World.drew _=wD at hHeld ⊢
 refine wFp (fun _ h=>aI ((HW.out.below h.1).ok.row.cell (j:=72) (by omega)) (h.2.cell (j:=1) (by omega))) fun t1=>?_
 refine tkx 0 44 t1 ?_
 refine tkx 1 45 t1 ?_
 refine tkx 2 46 t1 ?_
 refine tkx 3 47 t1 ?_
 refine tkx 4 48 t1 ?_
 refine tkx 5 49 t1 ?_
 refine tkx 6 50 t1 ?_
 refine tkx 7 51 t1 ?_
 refine tkx 8 52 t1 ?_
 refine tkx 9 53 t1 ?_
 refine tkx 10 54 t1 ?_
 refine rd 11 (some 55) rfl (fun K hK=>?_)
 go_simp
 refine (pick_any n ps.length hpl HW.out.len hnb.1 hnb.2 _).mono ?_
 rintro e w4 ⟨⟨i,hi,rfl⟩,hw4⟩
 obtain rfl:=hw4.symm
 refine hK.out _ _ hHeld fun hHeld=>?_
 have HPc:=hid2 (HPs.out i hi)
 have li:(i:Int)<(ps.length:Int):=by omega
 clear hK K
 refine wFp (fun W h=>aI ((HW.out.below h.1).ok.row.cell (j:=72) (by omega)) (aI (h.2.cell (j:=1) (by omega)) (HPc.out W h.1))) fun t2=>?_
 refine tkx 12 56 t2 ?_
 refine tkx 13 57 t2 ?_
 refine rdg 14 (some 5) ?_
 refine wdn ?_
 obtain ⟨xb,rb,cl,ss,top,vW,vK,t,ws,vL,vR,p,hG⟩:=HW.out.ply i hi
 have HP:=hid2 p
 clear p hG HPs HPc
 have b0:=hHeld.2.cell (j:=0) (by omega)
 simp only [opX] at b0
 have HD:=hid2 (hHeld.1.trans ((Below.refl _ _).drew.mono hHeld.1.size))
 have HX:=hid2 hHeld.2.drew
 go_wp2_with fail
 clear b0 hHeld
 refine wp_region_held_drew (S:=fun W=>Below w.heap.size w W∧RowIs W w.heap.size 85 23 (opX 10 n o at' ch x2 x3 x4 x5 x6 x7 x8 x9 x10 x11 x18 (.int .u64 lo) (.int .u64 hl))) (by kernel_rfl) ⟨HD.out,HX.out⟩ (fun hHeld=>?_)
 generalize World.drew _=wE at HD HX hHeld ⊢
 clear HD HX
 have HRx:=hid2 (fun W (hW:Below w.heap.size w W)=>root_any lo hl xb cl ss top vW vK t W (HP.out.book.below hW).row (HP.out.book.below hW).tree HP.out.book.typ (HP.out.book.below hW).env (fun x hx=>ok_W (HP.out.ok.set.ok x hx)))
 have HRr:=hid2 (fun W (hW:Below w.heap.size w W)=>rroot_any lo hl rb cl vL vR 0 false (.slice none 0 0) t ws W (HP.out.ref.below hW) HP.out.ok.set HP.out.heap)
 generalize strOfNums (t.rng lo hl).txt=S at *
 refine wFp (fun W h=>aI ((HP.out.row.below h.1 HP.out.row.lt).cell (j:=0) (by omega)) (aI ((HP.out.row.below h.1 HP.out.row.lt).cell (j:=1) (by omega)) (aI (h.2.cell (j:=21) (by omega)) (h.2.cell (j:=22) (by omega))))) fun t3=>?_
 refine tkx 0 221 t3 ?_
 refine tkx 1 222 t3 ?_
 refine tkx 2 223 t3 ?_
 refine tkx 3 224 t3 ?_
 refine tkx 4 225 t3 ?_
 refine tkx 5 226 t3 ?_
 refine tkx 6 227 t3 ?_
 refine tkx 7 228 t3 ?_
 refine tkx 9 230 t3 ?_
 refine tkx 10 231 t3 ?_
 refine tkx 11 232 t3 ?_
 refine tkx 12 233 t3 ?_
 refine tkx 13 234 t3 ?_
 refine tkx 14 235 t3 ?_
 refine tkx 15 236 t3 ?_
 refine tkx 16 237 t3 ?_
 refine rd 8 (some 229) rfl (fun K hK=>?_)
 go_simp
 refine (HRx.out _ hHeld.1).mono ?_
 rintro e w1 ⟨rfl,hb1⟩
 refine hK.out _ _ ⟨hHeld.1.trans (hb1.mono hHeld.1.size),hHeld.2.below hb1 hHeld.2.lt⟩ (fun hHeld=>?_)
 clear hK K hb1
 refine rd 17 (some 238) rfl (fun K hK=>?_)
 go_simp
 refine (HRr.out _ hHeld.1).mono ?_
 rintro e w2 ⟨rfl,hb2⟩
 refine hK.out _ _ ⟨hHeld.1.trans (hb2.mono hHeld.1.size),hHeld.2.below hb2 hHeld.2.lt⟩ (fun hHeld=>?_)
 clear hK K hb2
 have hq:=eqDigR (dig S 0) (dig S 1) (dig S 2)
 refine tk0 18 239 ?_
 refine rdg 19 (some 4) ?_
 refine wdn ?_
 go_wp2_with fail
 go_ret
 exact ⟨by simp,HW.out.below hHeld.1,hHeld.1.mono HW.out.le⟩
theorem infoPl:(Tryz.prog.info? 147).map (fun i=>(i.zero,i.size,i.bytes))=some (some (.pointer none),1,8):=by kernel_rfl
theorem heap_alloc_size (w:World) (o:Obj):(w.alloc o).heap.size=w.heap.size+1:=by simp
theorem freeN_any (s:ByteArray) (hs:s.size≤140737488351232) (x1 x2 x4 x5 x6 x7 x8 x9 x10 x11 x12 x13 x14 x15 x16 x17 x19 x20 x21 x22:Value) (a:Int) (wd:Nat) (vP vH:Value) (F:Nat→Prop) (hs' ps:List Nat) (Gs:Nat→Nat→Prop) (B:Nat) (w:World) (HH:WW B w wd vP vH F hs' ps Gs) :
  Calls Tryz.prog 76 #[.pointer (some ⟨wd,0,none⟩),.agg #[.int .i64 4,x1,x2,.string s,x4,x5,x6,x7,x8,x9,x10,x11,x12,x13,x14,x15,x16,x17,.int .u32 a,x19,x20,x21,x22]] w fun e w'=>e=.returned (.bool true)∧∃ vP' ps' Gs',WW B w' wd vP' vH F hs' ps' Gs'∧Below B w w':=by
 obtain ⟨ip,pi,pz0,pz1,pz2⟩:=info_parts infoPl
 obtain ⟨aP,cP,rfl,-⟩:=own_viewN HH.own
 have HW:=hid2 HH
 have hpl:=HH.len
 have hgl:=HH.glob
 clear HH
 by_cases hv:1≤a∧a≤1048575
 ·have HV:=hid2 hv
  go_enter Tryz.func76,Tryz.ntmps76
  go_wp2_with (first
   | (go_at_call 126;refine (lent_any s hs _).mono ?_;rintro e w1 ⟨rfl,-,hb1⟩;have k0:w1.cell? ⟨w.heap.size,0,none⟩=some (.int .i64 4):=(hb1.cell (p:=⟨w.heap.size,0,none⟩) (by simp)).trans ((cell_of_row _ _ _ _ _ _ (heap_alloc_new w _)).trans rfl);have k18:w1.cell? ⟨w.heap.size,18,none⟩=some (.int .u32 a):=(hb1.cell (p:=⟨w.heap.size,18,none⟩) (by simp)).trans ((cell_of_row _ _ _ _ _ _ (heap_alloc_new w _)).trans rfl);have HB1:=hid2 ((below1' w _).trans (hb1.mono (by simp)));have hl1:w.heap.size<w1.heap.size:=(by have:=hb1.size;simp at this;omega))
   | (go_at_call 20;refine (new_any a _).mono ?_;rintro e w2 ⟨hN2,hb2⟩;unfold NewP at hN2;rw [if_pos HV.out] at hN2;obtain ⟨xb,rfl,hx1,hx2⟩:=hN2;have HX2:=hid2 (And.intro (Nat.le_trans HB1.out.size hx1) hx2);have HB2:=hid2 (HB1.out.trans (hb2.mono HB1.out.size));have HK2:=hid2 ((hb2.cell (p:=⟨w.heap.size,18,none⟩) hl1).trans k18);have hl2:=Nat.lt_of_lt_of_le hl1 hb2.size;clear hx1 hx2 hb2))
  clear k0 k18 hb1
  have HD2:=hid2 (HB2.out.trans ((Below.refl _ _).drew.mono HB2.out.size))
  have HXD:=hid2 HX2.out.2.drew
  have HKD:Hid (w2.drew.cell? ⟨w.heap.size,18,none⟩=some (.int .u32 a)):=HK2.out
  refine wp_region_held_drew (S:=fun W=>Below w.heap.size w W∧W.cell? ⟨w.heap.size,18,none⟩=some (.int .u32 a)) (by kernel_rfl) ⟨HD2.out,HKD.out⟩ (fun hHeld=>?_)
  have HL:Hid (w.heap.size<w2.drew.heap.size):=hl2
  have HX2:Hid (w.heap.size≤xb∧RowIs w2.drew xb 118 7 (rep7 0 a (.pointer none) (.slice none 0 0) 0 (.slice none 0 0))):=⟨HX2.out.1,HXD.out⟩
  clear HXD HKD HK2 HB2 hl2
  generalize w2.drew=wD at HD2 HX2 HL hHeld ⊢
  refine tk0 0 110 ?_
  refine tk0 1 111 ?_
  refine tk0 2 112 ?_
  refine tk 3 113 rfl (yieldsIf_load_mid (by rfl) 80 (.tmp 112) rfl wd 0 rfl (rowOf 72 fun j=>.int .u32 (RV j)).toList _ (fun _ h=>range74 (HW.out.below h.1).ok.row) Tryz.underlying80 rfl (by rw [Array.length_toList,rowOf_size];exact info30)) hHeld ?_
  simp only [Act.put,ls1,ls2,ls3,Array.toArray_toList]
  refine tk0 4 114 ?_
  refine tkf 5 115 (fun _ h=>h.2) ?_
  refine rd 6 (some 116) rfl (fun K hK=>?_)
  go_simp
  refine (refNew_any a _).mono ?_
  rintro e w3 ⟨hF3,hb3⟩
  unfold RefNewP at hF3
  rw [if_pos HV.out] at hF3
  obtain ⟨rb,rfl,hr1,hr2⟩:=hF3
  have HF3:=hid2 (And.intro hr1 (And.intro hr2 hb3))
  refine hK.out _ _ ⟨hHeld.1.trans (hb3.mono hHeld.1.size),(hb3.cell (p:=⟨w.heap.size,18,none⟩) HL.out).trans hHeld.2⟩ (fun hHeld=>?_)
  clear hK K hr1 hr2 hb3
  refine tk0 7 109 ?_
  refine tk0 8 117 ?_
  refine tk0 9 118 ?_
  refine rdg 10 (some 15) ?_
  refine rdg 11 (some 16) ?_
  refine wdn ?_
  have HB3:=hid2 hHeld.1
  have HX3:=hid2 (HX2.out.2.below HF3.out.2.2 HX2.out.2.lt)
  have HLt:=hid2 hHeld.1.size
  have HE3:=hid2 ((HW.out.below hHeld.1).env)
  have c72:=(HW.out.below hHeld.1).ok.row.cell (j:=72) (by omega)
  simp only [wcell] at c72
  clear hHeld
  have HNW:Hid (∀ j u,[Value.pointer (some ⟨w3.heap.size,0,none⟩)][j]?=some u→((w3.alloc (.cells #[.pointer (some ⟨xb,0,none⟩),.pointer (some ⟨rb,0,none⟩)] 150)).alloc (.cells #[.pointer (some ⟨w3.heap.size,0,none⟩)] 147)).cell? ((⟨w3.heap.size+1,0,none⟩:Addr).add j)=some u):=by
   have h:=World.news_of_block (heap_alloc_new (w3.alloc (.cells #[.pointer (some ⟨xb,0,none⟩),.pointer (some ⟨rb,0,none⟩)] 150)) (.cells #[.pointer (some ⟨w3.heap.size,0,none⟩)] 147))
   rw [heap_alloc_size] at h
   exact h
  have HJN:Hid (∀ (v5:Value) (w5:World) (_:w5.ownsRow 0 147 1 v5 (ps.length+1) (ptrs ps++[.pointer (some ⟨w3.heap.size,0,none⟩)])) (_:((w3.alloc (.cells #[.pointer (some ⟨xb,0,none⟩),.pointer (some ⟨rb,0,none⟩)] 150)).alloc (.cells #[.pointer (some ⟨w3.heap.size,0,none⟩)] 147)).grownBy w5 (Value.slice aP ps.length cP).ownBlock) (_:v5.ownBlock=(Value.slice aP ps.length cP).ownBlock∨v5.ownBlock=some ((w3.alloc (.cells #[.pointer (some ⟨xb,0,none⟩),.pointer (some ⟨rb,0,none⟩)] 150)).alloc (.cells #[.pointer (some ⟨w3.heap.size,0,none⟩)] 147)).heap.size),ps.length<4→∃ Gs',WW B (w5.setCell ⟨wd,72,none⟩ v5) wd v5 vH F hs' (ps++[w3.heap.size]) Gs'∧Below B w (w5.setCell ⟨wd,72,none⟩ v5)):=fun v5 w5 h1 h2 h3 hl4=>by
   have hb4:Below w3.heap.size w3 ((w3.alloc (.cells #[.pointer (some ⟨xb,0,none⟩),.pointer (some ⟨rb,0,none⟩)] 150)).alloc (.cells #[.pointer (some ⟨w3.heap.size,0,none⟩)] 147)):=(below1' _ _).trans ((below1' _ _).mono (by simp))
   have hg:=HW.out.glob
   have hp:Ply ((w3.alloc (.cells #[.pointer (some ⟨xb,0,none⟩),.pointer (some ⟨rb,0,none⟩)] 150)).alloc (.cells #[.pointer (some ⟨w3.heap.size,0,none⟩)] 147)) w3.heap.size (fun g=>g=w3.heap.size∨g=xb∨g=rb):=ply_new ((RowIs.last (n:=2) (f:=pl2 xb rb) (cs:=#[.pointer (some ⟨xb,0,none⟩),.pointer (some ⟨rb,0,none⟩)]) rfl rfl).below (below1' _ _) (by simp)) (HX3.out.below hb4 HX3.out.lt) (HF3.out.2.1.below hb4) HV.out (HE3.out.below hb4) (by have:=HLt.out;omega) (by have:=HX2.out.1;omega) (by have:=HF3.out.1;have:=HD2.out.size;omega)
   refine HW.out.join hl4 (HB3.out.trans (hb4.mono HB3.out.size)) hp (fun g q=>?_) h1 h2 h3
   have hx:=HX3.out.lt
   have hr:=HF3.out.2.1.row.lt
   have hlt:=HLt.out
   simp only [heap_alloc_size]
   rcases q with q|q|q
   ·omega
   ·have:=HX2.out.1;omega
   ·have:=HF3.out.1;have:=HD2.out.size;omega
  rcases Nat.lt_or_ge ps.length 4 with hl4|hl4
  ·have li:(ps.length:Int)<4:=by omega
   go_wp2_with (at_builtin;refine wpList_append_any rfl (.tmp 146) (.tmp 151) 87 rfl _ 147 ip _ 1 8 Tryz.underlying87 pi pz0 pz1 pz2 rfl (by decide) (.slice aP ps.length cP) ps.length (ptrs ps) rfl ((HW.out.below (HB3.out.trans (((below1' w3 (.cells #[.pointer (some ⟨xb,0,none⟩),.pointer (some ⟨rb,0,none⟩)] 150)).trans ((below1' _ _).mono (by simp))).mono HB3.out.size))).own) (some ⟨w3.heap.size+1,0,none⟩) 1 1 [.pointer (some ⟨w3.heap.size,0,none⟩)] rfl rfl (Or.inr ⟨_,rfl,HNW.out⟩) (by simp [Value.oneCell']) (by unfold maxLen;omega) (by omega) (Nat.zero_le _) ?_;intro v5 w5 ho5 hg5 hv5;have H5:=hid2 (And.intro ho5 (And.intro hg5 hv5));obtain ⟨a5,c5,rfl,-⟩:=own_viewN ho5;have r5:=(HW.out.below (HB3.out.trans (((below1' w3 (.cells #[.pointer (some ⟨xb,0,none⟩),.pointer (some ⟨rb,0,none⟩)] 150)).trans ((below1' _ _).mono (by simp))).mono HB3.out.size))).ok.row.but (But.grown hg5) (fun e=>(HW.out.pout wd e).2.1 rfl);have q5:=r5.cell (j:=72) (by omega);simp only [wcell] at q5;have f5:=r5.free 72;clear ho5 hg5 hv5 r5)
   go_ret
   exact ⟨rfl,_,_,HJN.out _ _ H5.out.1 H5.out.2.1 H5.out.2.2 hl4⟩
  ·go_wp2_with fail
   go_ret
   exact ⟨rfl,_,_,_,HW.out.below HB3.out,HB3.out.mono HW.out.le⟩
 ·have HV:=hid2 hv
  go_enter Tryz.func76,Tryz.ntmps76
  go_wp2_with (first
   | (go_at_call 126;refine (lent_any s hs _).mono ?_;rintro e w1 ⟨rfl,-,hb1⟩;have k0:w1.cell? ⟨w.heap.size,0,none⟩=some (.int .i64 4):=(hb1.cell (p:=⟨w.heap.size,0,none⟩) (by simp)).trans ((cell_of_row _ _ _ _ _ _ (heap_alloc_new w _)).trans rfl);have k18:w1.cell? ⟨w.heap.size,18,none⟩=some (.int .u32 a):=(hb1.cell (p:=⟨w.heap.size,18,none⟩) (by simp)).trans ((cell_of_row _ _ _ _ _ _ (heap_alloc_new w _)).trans rfl);have HB1:=hid2 ((below1' w _).trans (hb1.mono (by simp)));have hl1:w.heap.size<w1.heap.size:=(by have:=hb1.size;simp at this;omega))
   | (go_at_call 20;refine (new_any a _).mono ?_;rintro e w2 ⟨hN2,hb2⟩;unfold NewP at hN2;rw [if_neg HV.out] at hN2;obtain rfl:=hN2;have HB2:=hid2 (HB1.out.trans (hb2.mono HB1.out.size));have HK2:=hid2 ((hb2.cell (p:=⟨w.heap.size,18,none⟩) hl1).trans k18);have hl2:=Nat.lt_of_lt_of_le hl1 hb2.size;clear hb2))
  clear k0 k18 hb1
  have HD2:=hid2 (HB2.out.trans ((Below.refl _ _).drew.mono HB2.out.size))
  have HKD:Hid (w2.drew.cell? ⟨w.heap.size,18,none⟩=some (.int .u32 a)):=HK2.out
  refine wp_region_held_drew (S:=fun W=>Below w.heap.size w W∧W.cell? ⟨w.heap.size,18,none⟩=some (.int .u32 a)) (by kernel_rfl) ⟨HD2.out,HKD.out⟩ (fun hHeld=>?_)
  have HL:Hid (w.heap.size<w2.drew.heap.size):=hl2
  clear HKD HK2 HB2 hl2
  generalize w2.drew=wD at HD2 HL hHeld ⊢
  refine tk0 0 110 ?_
  refine tk0 1 111 ?_
  refine tk0 2 112 ?_
  refine tk 3 113 rfl (yieldsIf_load_mid (by rfl) 80 (.tmp 112) rfl wd 0 rfl (rowOf 72 fun j=>.int .u32 (RV j)).toList _ (fun _ h=>range74 (HW.out.below h.1).ok.row) Tryz.underlying80 rfl (by rw [Array.length_toList,rowOf_size];exact info30)) hHeld ?_
  simp only [Act.put,ls1,ls2,ls3,Array.toArray_toList]
  refine tk0 4 114 ?_
  refine tkf 5 115 (fun _ h=>h.2) ?_
  refine rd 6 (some 116) rfl (fun K hK=>?_)
  go_simp
  refine (refNew_any a _).mono ?_
  rintro e w3 ⟨hF3,hb3⟩
  unfold RefNewP at hF3
  rw [if_neg HV.out] at hF3
  obtain rfl:=hF3
  refine hK.out _ _ ⟨hHeld.1.trans (hb3.mono hHeld.1.size),(hb3.cell (p:=⟨w.heap.size,18,none⟩) HL.out).trans hHeld.2⟩ (fun hHeld=>?_)
  clear hK K hb3
  refine tk0 7 109 ?_
  refine tk0 8 117 ?_
  refine tk0 9 118 ?_
  refine rdg 10 (some 15) ?_
  refine rdg 11 (some 16) ?_
  refine wdn ?_
  go_wp2_with fail
  go_ret
  exact ⟨rfl,_,_,_,HW.out.below hHeld.1,hHeld.1.mono HW.out.le⟩
theorem stepNew (s:ByteArray) (hs:s.size≤140737488351232) (x1 x2 x4 x5 x6 x7 x8 x9 x10 x11 x12 x13 x14 x15 x16 x17 x19 x20 x21 x22:Value) (a:Int) (wd:Nat) (vP vH:Value) (F:Nat→Prop) (hs' ps:List Nat) (Gs:Nat→Nat→Prop) (B:Nat) (w:World) (HH:WW B w wd vP vH F hs' ps Gs) :
  Calls Tryz.prog 43 #[.pointer (some ⟨wd,0,none⟩),.agg #[.int .i64 4,x1,x2,.string s,x4,x5,x6,x7,x8,x9,x10,x11,x12,x13,x14,x15,x16,x17,.int .u32 a,x19,x20,x21,x22]] w fun e w'=>e=.returned (.bool true)∧∃ vP' ps' Gs',WW B w' wd vP' vH F hs' ps' Gs'∧Below B w w':=by
 have HB0:=hid2 ((below1' w (.cells #[.int .i64 4,x1,x2,.string s,x4,x5,x6,x7,x8,x9,x10,x11,x12,x13,x14,x15,x16,x17,.int .u32 a,x19,x20,x21,x22] 85)).mono HH.le)
 have Hf:=hid2 (freeN_any s hs x1 x2 x4 x5 x6 x7 x8 x9 x10 x11 x12 x13 x14 x15 x16 x17 x19 x20 x21 x22 a wd vP vH F hs' ps Gs B _ (HH.below (below1' w (.cells #[.int .i64 4,x1,x2,.string s,x4,x5,x6,x7,x8,x9,x10,x11,x12,x13,x14,x15,x16,x17,.int .u32 a,x19,x20,x21,x22] 85))))
 clear HH
 go_enter Tryz.func43,Tryz.ntmps43
 have hr:=alloc_range w [.int .i64 4,x1,x2,.string s,x4,x5,x6,x7,x8,x9,x10,x11,x12,x13,x14,x15,x16,x17,.int .u32 a,x19,x20,x21,x22] 85
 have Hr:=hid2 hr
 clear hr
 go_wp2_with (first
  | (refine wpList_load_mid rfl 85 (.tmp 3) rfl w.heap.size 0 rfl _ _ Hr.out Tryz.underlying85 rfl infoOp ?_)
  | (go_at_call 76;refine Hf.out.mono ?_;rintro e w1 ⟨rfl,hl⟩;have HL:=hid2 hl;clear hl))
 go_ret
 obtain ⟨vP',ps',Gs',h1,h2⟩:=HL.out
 exact ⟨rfl,vP',ps',Gs',h1,HB0.out.trans h2⟩
theorem stepNone (k:Int) (h5:5≤k) (x1 x2 x3 x4 x5 x6 x7 x8 x9 x10 x11 x12 x13 x14 x15 x16 x17 x18 x19 x20 x21 x22:Value) (wd:Nat) (vP vH:Value) (F:Nat→Prop) (hs':List Nat) (Gs:Nat→Nat→Prop) (B:Nat) (w:World) (HH:WW B w wd vP vH F hs' [] Gs) :
  Calls Tryz.prog 43 #[.pointer (some ⟨wd,0,none⟩),.agg #[.int .i64 k,x1,x2,x3,x4,x5,x6,x7,x8,x9,x10,x11,x12,x13,x14,x15,x16,x17,x18,x19,x20,x21,x22]] w fun e w'=>e=.returned (.bool true)∧WW B w' wd vP vH F hs' [] Gs∧Below B w w':=by
 have HB0:=hid2 ((below1' w (.cells #[.int .i64 k,x1,x2,x3,x4,x5,x6,x7,x8,x9,x10,x11,x12,x13,x14,x15,x16,x17,x18,x19,x20,x21,x22] 85)).mono HH.le)
 obtain ⟨aP,cP,rfl,-⟩:=own_viewN HH.own
 have HW:=hid2 (HH.below (below1' w (.cells #[.int .i64 k,x1,x2,x3,x4,x5,x6,x7,x8,x9,x10,x11,x12,x13,x14,x15,x16,x17,x18,x19,x20,x21,x22] 85)))
 have c72:=HW.out.ok.row.cell (j:=72) (by omega)
 simp only [wcell] at c72
 clear HH
 go_enter Tryz.func43,Tryz.ntmps43
 go_wp2_with fail
 go_ret
 exact ⟨rfl,HW.out,HB0.out⟩
def OpP (f:Nat→Value):Prop:=(∃ n:Int,f 1=.int .i64 n∧-9223372036854775808≤n∧n≤9223372036854775807)∧(∃ o:Opn,OpT o∧f 12=.int .i64 o.kd∧f 13=.int .u32 o.cl∧f 14=.int .u32 o.ck∧f 15=.int .u32 o.st∧f 16=.int .u64 o.rf∧f 17=.int .i32 o.ch)∧(∃ n:Int,f 19=.int .i64 n∧-9223372036854775808≤n∧n≤9223372036854775807)∧(∃ c:Int,f 20=.int .i32 c)∧(∃ l:Int,f 21=.int .u64 l)∧∃ l:Int,f 22=.int .u64 l
def StepQ (B wd:Nat) (hs:List Nat) (w:World) (e:Ending) (w':World):Prop:=e=.returned (.bool true)∧∃ vP' vH' F' hs' ps' Gs',WW B w' wd vP' vH' F' hs' ps' Gs'∧hs'.length≤hs.length+8∧Below B w w'
theorem stepW_any (f:Nat→Value) (k:Int) (hk:4≤k∧k≤10) (hop:OpIs f) (hp:OpP f) (wd:Nat) (vP vH:Value) (F:Nat→Prop) (hs ps:List Nat) (Gs:Nat→Nat→Prop) (B:Nat) (w:World) (HH:WW B w wd vP vH F hs ps Gs) (hH:(hs.length+8)*8≤140737488355328) :
  Calls Tryz.prog 43 #[.pointer (some ⟨wd,0,none⟩),.agg #[.int .i64 k,f 1,f 2,f 3,f 4,f 5,f 6,f 7,f 8,f 9,f 10,f 11,f 12,f 13,f 14,f 15,f 16,f 17,f 18,f 19,f 20,f 21,f 22]] w fun e w'=>StepQ B wd hs w e w':=by
 obtain ⟨-,⟨s,e3,hs3⟩,-,⟨a,e18,ha⟩⟩:=hop
 obtain ⟨⟨n,e1,hn⟩,⟨o,hT,e12,e13,e14,e15,e16,e17⟩,⟨at',e19,hat⟩,⟨ch,e20⟩,⟨lo,e21⟩,⟨hl,e22⟩⟩:=hp
 rcases Int.lt_or_le k 5 with h5|h5
 ·obtain rfl:k=4:=by omega
  rw [e3,e18]
  refine (stepNew s hs3 (f 1) (f 2) (f 4) (f 5) (f 6) (f 7) (f 8) (f 9) (f 10) (f 11) (f 12) (f 13) (f 14) (f 15) (f 16) (f 17) (f 19) (f 20) (f 21) (f 22) a wd vP vH F hs ps Gs B w HH).mono ?_
  rintro e w' ⟨rfl,vP',ps',Gs',h,hb⟩
  exact ⟨rfl,vP',vH,F,hs,ps',Gs',h,by omega,hb⟩
 ·rcases Nat.eq_zero_or_pos ps.length with h0|h0
  ·obtain rfl:=List.length_eq_zero_iff.1 h0
   refine (stepNone k h5 (f 1) (f 2) (f 3) (f 4) (f 5) (f 6) (f 7) (f 8) (f 9) (f 10) (f 11) (f 12) (f 13) (f 14) (f 15) (f 16) (f 17) (f 18) (f 19) (f 20) (f 21) (f 22) wd vP vH F hs Gs B w HH).mono ?_
   rintro e w' ⟨rfl,h,hb⟩
   exact ⟨rfl,vP,vH,F,hs,[],Gs,h,by omega,hb⟩
  ·rw [e1,e12,e13,e14,e15,e16,e17,e19,e20]
   have hcase:k=5∨k=6∨k=7∨k=8∨k=9∨k=10:=by omega
   rcases hcase with rfl|rfl|rfl|rfl|rfl|rfl
   ·refine (stepIns n o at' ch (f 2) (f 3) (f 4) (f 5) (f 6) (f 7) (f 8) (f 9) (f 10) (f 11) (f 18) (f 21) (f 22) hn hat wd vP vH F hs ps Gs B w HH h0).mono ?_
    rintro e w' ⟨rfl,Gs',h,hb⟩
    exact ⟨rfl,vP,vH,F,hs,ps,Gs',h,by omega,hb⟩
   ·refine (stepDel n o at' ch (f 2) (f 3) (f 4) (f 5) (f 6) (f 7) (f 8) (f 9) (f 10) (f 11) (f 18) (f 21) (f 22) hn hat wd vP vH F hs ps Gs B w HH h0).mono ?_
    rintro e w' ⟨rfl,Gs',h,hb⟩
    exact ⟨rfl,vP,vH,F,hs,ps,Gs',h,by omega,hb⟩
   ·refine (stepAdd n o at' ch (f 2) (f 3) (f 4) (f 5) (f 6) (f 7) (f 8) (f 9) (f 10) (f 11) (f 18) (f 21) (f 22) hn hT wd vP vH F hs ps Gs B w HH h0).mono ?_
    rintro e w' ⟨rfl,Gs',h,hb⟩
    exact ⟨rfl,vP,vH,F,hs,ps,Gs',h,by omega,hb⟩
   ·refine (stepText n o at' ch (f 2) (f 3) (f 4) (f 5) (f 6) (f 7) (f 8) (f 9) (f 10) (f 11) (f 18) (f 21) (f 22) hn wd vP vH F hs ps Gs B w HH h0).mono ?_
    rintro e w' ⟨rfl,Gs',h,hb⟩
    exact ⟨rfl,vP,vH,F,hs,ps,Gs',h,by omega,hb⟩
   ·refine (stepOps n o at' ch (f 2) (f 3) (f 4) (f 5) (f 6) (f 7) (f 8) (f 9) (f 10) (f 11) (f 18) (f 21) (f 22) hn wd vP vH F hs ps hH Gs B w HH h0).mono ?_
    rintro e w' ⟨rfl,vH',F',hs',h,hl,hb⟩
    exact ⟨rfl,vP,vH',F',hs',ps,Gs,h,by omega,hb⟩
   ·rw [e21,e22]
    refine (stepRoot n o at' ch (f 2) (f 3) (f 4) (f 5) (f 6) (f 7) (f 8) (f 9) (f 10) (f 11) (f 18) lo hl hn wd vP vH F hs ps Gs B w HH h0).mono ?_
    rintro e w' ⟨rfl,h,hb⟩
    exact ⟨rfl,vP,vH,F,hs,ps,Gs,h,by omega,hb⟩
def ScriptW (w:World) (g off n:Nat) (f:Nat→Nat→Value):Prop:=∀ i,i<n→(∀ j,j<23→w.cell? ⟨g,off+i*23+j,none⟩=some (f i j))∧OpIs (f i)∧OpP (f i)
section
variable {H : Type} {enc : TypeId × Value → H} {w : World} {base : Nat} {spare : Nat → Bool} {held : Bool}
theorem op_openP {fuel:Nat} {cs:List Value} {x:DataW H×List MemPlace} (h:DataW.trod enc Tryz.prog w base (fun _=>true) held fuel 85 cs=some x) (hl:cs.length=23):OpP fun j=>cs[j]?.getD .nilFunc:=by
 obtain ⟨n1,e1,b1⟩:=field_int (i:=1) Tryz.underlying85 h rfl (by kernel_rfl) (k:=.i64) (by kernel_rfl) (by rw [hl];decide)
 obtain ⟨n7,e7,b7⟩:=field_int (i:=7) Tryz.underlying85 h rfl (by kernel_rfl) (k:=.i64) (by kernel_rfl) (by rw [hl];decide)
 obtain ⟨n8,e8,b8⟩:=field_int (i:=8) Tryz.underlying85 h rfl (by kernel_rfl) (k:=.i32) (by kernel_rfl) (by rw [hl];decide)
 obtain ⟨n9,e9,-⟩:=field_int (i:=9) Tryz.underlying85 h rfl (by kernel_rfl) (k:=.u64) (by kernel_rfl) (by rw [hl];decide)
 obtain ⟨n10,e10,-⟩:=field_int (i:=10) Tryz.underlying85 h rfl (by kernel_rfl) (k:=.u64) (by kernel_rfl) (by rw [hl];decide)
 obtain ⟨y,n,parts,h5,-,-⟩:=field_sub2 (i:=5) Tryz.underlying85 h rfl (c:=6) (by kernel_rfl)
 have h5':DataW.trod enc Tryz.prog w base (fun _=>true) held n 43 ((cs.drop 12).take 6)=some y:=h5
 obtain ⟨o,hT,ho⟩:=aop_open h5' (by rw [List.length_take,List.length_drop,hl];rfl)
 have hg:∀ j,j<6→cs[12+j]?=some (opV o j):=fun j hj=>by rw [← ho j hj,List.getElem?_take_of_lt hj,List.getElem?_drop]
 have q1:cs[1]?=some (.int .i64 n1):=e1
 have q7:cs[19]?=some (.int .i64 n7):=e7
 have q8:cs[20]?=some (.int .i32 n8):=e8
 have q9:cs[21]?=some (.int .u64 n9):=e9
 have q10:cs[22]?=some (.int .u64 n10):=e10
 have p0:=hg 0 (by decide)
 have p1:=hg 1 (by decide)
 have p2:=hg 2 (by decide)
 have p3:=hg 3 (by decide)
 have p4:=hg 4 (by decide)
 have p5:=hg 5 (by decide)
 refine ⟨⟨n1,by dsimp only;rw [q1];rfl,kb64 b1⟩,⟨o,hT,by dsimp only;rw [p0];rfl,by dsimp only;rw [p1];rfl,by dsimp only;rw [p2];rfl,by dsimp only;rw [p3];rfl,by dsimp only;rw [p4];rfl,by dsimp only;rw [p5];rfl⟩,⟨n7,by dsimp only;rw [q7];rfl,kb64 b7⟩,⟨n8,by dsimp only;rw [q8];rfl⟩,⟨n9,by dsimp only;rw [q9];rfl⟩,n10,by dsimp only;rw [q10];rfl⟩
theorem script_openW {v:Value} {d:DataW H} {p:List MemPlace} (h:DataW.Trod enc Tryz.prog w base (fun _=>true) held 22 v d p) (hs:∃ a l c,v=.slice a l c) (hw:∀ n∈d.weights Tryz.prog 22,n≤reachBytes) :
  (∃ a cap,v=.slice a 0 cap)∨∃ g off len cap f,v=.slice (some ⟨g,off,none⟩) len cap∧len*184≤140737488351232∧ScriptW w g off len f:=by
 obtain ⟨fuel,h⟩:=h
 obtain ⟨va,vl,vc,rfl⟩:=hs
 rcases open_slice Tryz.underlying22 h with ⟨h0,_⟩|⟨a,len,cap,m,n,D,Pl,h0,hb,hl,hm,hmm,hx,hall⟩
 ·exact Or.inl ⟨none,0,(List.cons.inj h0).1⟩
 ·rw [show Tryz.prog.cellsOf 85=23 from by kernel_rfl] at hall
  simp only [if_true] at hmm
  subst hmm
  have e0:=(List.cons.inj h0).1
  simp only [Prod.mk.injEq] at hx
  obtain ⟨rfl,rfl⟩:=hx
  have hwt:∀ n,n∈(m*184)::(DataW.weightsAll Tryz.prog 85 ((List.range len).map D)++DataW.weightsAll Tryz.prog 85 ((List.range (m-len)).map fun j=>D (len+j)))→n≤reachBytes:=fun n hn=>hw n (by
   unfold DataW.weights
   rw [Tryz.underlying22]
   show n∈(_*Tryz.prog.bytesOf 85)::_
   rw [show Tryz.prog.bytesOf 85=184 from by kernel_rfl,List.length_map,List.length_map,List.length_range,List.length_range,show len+(m-len)=m by omega]
   exact hn)
  have h1:=hwt _ (.head _)
  by_cases hz:len=0
  ·subst hz
   exact Or.inl ⟨_,_,e0⟩
  ·obtain ⟨ab,ao,sp⟩:=a
   have hlen:len*184≤140737488351232:=by simp only [reachBytes] at h1;omega
   have hc:∀ i,i<len→∃ cs':List Value,cs'.length=23∧(∀ j,j<23→w.cell? (((⟨ab,ao,sp⟩:Addr).add (i*23)).add j)=cs'[j]?)∧OpIs (fun j=>cs'[j]?.getD .nilFunc)∧OpP fun j=>cs'[j]?.getD .nilFunc:=fun i hi=>by
    obtain ⟨cs',h2,h3⟩:=hall i (by omega)
    obtain ⟨_,h4,h5⟩:=World.cells?_some h2
    have hwi:∀ n∈(D i).weights Tryz.prog 85,n≤reachBytes:=fun n hn=>hwt n (.tail _ (List.mem_append_left _ (weights_mem_all (List.mem_map_of_mem (List.mem_range.2 hi)) n hn)))
    exact ⟨cs',h4,fun j hj=>h5 j hj,op_open h3 h4 hwi,op_openP h3 h4⟩
   obtain ⟨cs0,h0l,h00,_⟩:=hc 0 (by omega)
   have hsp:sp=none:=by
    have e:=h00 0 (by decide)
    rw [List.getElem?_eq_getElem (by omega)] at e
    simpa [Addr.add] using World.cell?_spot e
   subst hsp
   refine Or.inr ⟨ab,ao,len,m,fun i j=>if j<23 then (w.cell? ⟨ab,ao+i*23+j,none⟩).getD .nilFunc else .nilFunc,e0,hlen,fun i hi=>?_⟩
   obtain ⟨cs',h4,h5',h6,h7⟩:=hc i hi
   have h5:∀ j,j<23→w.cell? ⟨ab,ao+i*23+j,none⟩=cs'[j]?:=fun j hj=>by
    rw [← h5' j hj,add_none,add_none]
   have e:(fun j=>if j<23 then (w.cell? ⟨ab,ao+i*23+j,none⟩).getD .nilFunc else .nilFunc)=fun j=>cs'[j]?.getD .nilFunc:=by
    funext j
    by_cases hj:j<23
    ·rw [if_pos hj,h5 j hj]
    ·rw [if_neg hj,List.getElem?_eq_none (by omega)];rfl
   dsimp only
   rw [e]
   refine ⟨fun j hj=>?_,h6,h7⟩
   rw [if_pos hj,h5 j hj,List.getElem?_eq_getElem (by omega)];rfl
end
theorem upToW_any (a:Option Addr) (n cap:Nat) (w:World) (f:Nat→Nat→Value) (hn:n*184≤140737488351232) (hS:∀ i,i<n→∃ g off,a=some ⟨g,off,none⟩∧(∀ j,j<23→w.cell? ⟨g,off+i*23+j,none⟩=some (f i j))∧OpIs (f i)∧OpP (f i)) (hE:Env w) (hg9:15≤w.heap.size) :
  Calls Tryz.prog 16 #[.slice a n cap,.int .i64 4,.int .i64 10] w fun e w'=>e=.returned (.int .i64 (-1))∧Below w.heap.size w w':=by
 have HS:Hid (∀ i,i<n→∃ g off,a=some ⟨g,off,none⟩∧(∀ j,j<23→w.cell? ⟨g,off+i*23+j,none⟩=some (f i j))∧OpIs (f i)∧OpP (f i)):=hS
 have HE:Hid (Env w∧15≤w.heap.size):=⟨hE,hg9⟩
 clear hS hE hg9
 go_enter Tryz.func16,Tryz.ntmps16
 go_wp2_with (first
  | (go_at_call 41;refine (roots_any _).mono ?_;rintro e w1 ⟨rfl,hb1⟩))
 have hw1:=world_row w1
 have hB0:=hb1.alloc hb1.size (.cells (Array.foldl (fun cs (x:Value×Nat)=>cs.setIfInBounds x.snd x.fst) Tryz.zeroCells90 (rowOf 72 fun j=>.int .u32 (RV j)).zipIdx 0 72) 90)
 have hO0:=WOk.mk (F:=fun _=>False) (hs:=[]) hw1 (World.ownsRow_nil _ _ _ _) (fun _ h=>by cases h) ⟨id,fun _ h=>by cases h⟩ (fun _ h=>h.elim)
 have hW0:WW w.heap.size (w1.alloc (.cells (Array.foldl (fun cs (x:Value×Nat)=>cs.setIfInBounds x.snd x.fst) Tryz.zeroCells90 (rowOf 72 fun j=>.int .u32 (RV j)).zipIdx 0 72) 90)) w1.heap.size (.slice none 0 0) (.slice none 0 0) (fun _=>False) [] [] (fun _ _=>False):=
  ⟨hO0,World.ownsRow_nil _ _ _ _,by decide,fun i h=>(by cases h),fun i j h=>(by cases h),fun i h=>(by cases h),fun g e=>(by cases e),⟨hb1.size,fun g e=>(by cases e),fun g e=>(by cases e)⟩,HE.out.2,HE.out.1.below hB0⟩
 have HW0:=hid2 hW0
 have HB1:=hid2 hb1
 clear hO0 hw1 hW0
 go_loopw [8] (fun i wr=>∃ k:Nat,k≤n∧i=.int .i64 k∧Hid (∃ vP vH F H ps Gs,WW w.heap.size wr w1.heap.size vP vH F H ps Gs∧H.length≤8*k)∧Hid (Below w.heap.size w wr)) (fun i _=>n-(intOf i).toNat)
 case atStart=>exact ⟨0,Nat.zero_le _,rfl,⟨_,_,_,_,_,_,HW0.out,Nat.le_refl _⟩,hid2 hB0⟩
 case round=>
  obtain ⟨k,hk,rfl,HWW,HBL⟩:=hrel
  clear HW0 hB0
  by_cases hlt:k<n
  ·obtain ⟨g,off,rfl,hc,hop,hof⟩:=HS.out k hlt
   have hc':∀ j,j<23→wr.cell? ⟨g,off+k*23+j,none⟩=some (f k j):=fun j hj=>(HBL.out.cell (block_lt_of_cell (hc j hj))).trans (hc j hj)
   obtain ⟨kk,e0⟩:=hop.1
   have c0:=hc' 0 (by decide)
   rw [e0,Nat.add_zero] at c0
   have lk:(k:Int)<(n:Int):=by omega
   have HWW2:Hid (∃ vP vH F H ps Gs,WW w.heap.size wr w1.heap.size vP vH F H ps Gs∧H.length≤8*(k+1)):=by
    obtain ⟨vP,vH,F,H,ps,Gs,h1,h2⟩:=HWW.out
    exact ⟨vP,vH,F,H,ps,Gs,h1,by omega⟩
   rcases Int.lt_or_le kk 4 with h1|h1
   ·clear hc hc' HE HS hop hof
    go_wp2
    go_roundw
    case rel=>exact ⟨k+1,hlt,by go_num,HWW2,HBL⟩
    case measure=>simp [intOf];omega
   ·rcases Int.lt_or_le 10 kk with h3|h3
    ·clear hc hc' HE HS hop hof
     go_wp2
     go_roundw
     case rel=>exact ⟨k+1,hlt,by go_num,HWW2,HBL⟩
     case measure=>simp [intOf];omega
    ·have hR:=range23 hc'
     rw [e0] at hR
     have HR:Hid (wr.rangeAt g (off+k*23) [.int .i64 kk,f k 1,f k 2,f k 3,f k 4,f k 5,f k 6,f k 7,f k 8,f k 9,f k 10,f k 11,f k 12,f k 13,f k 14,f k 15,f k 16,f k 17,f k 18,f k 19,f k 20,f k 21,f k 22]):=hR
     obtain ⟨vP,vH,F,H,ps,Gs,hW,hHl⟩:=HWW.out
     have hH8:(H.length+8)*8≤140737488355328:=by omega
     have Hst:=hid2 (stepW_any (f k) kk ⟨h1,h3⟩ hop hof w1.heap.size vP vH F H ps Gs w.heap.size wr hW hH8)
     clear hR hc hc' HE HS hop hof HWW HWW2 hW
     go_wp2_with (first
      | (refine wpList_load_mid rfl 85 (.tmp 39) rfl g (off+k*23) rfl _ _ HR.out Tryz.underlying85 rfl infoOp ?_)
      | (go_at_call 43;refine Hst.out.mono ?_;rintro e w2 ⟨rfl,vP2,vH2,F2,H2,ps2,Gs2,hW2,hl2,hb2⟩;have HW2:=hid2 hW2;have HB2:=hid2 hb2;clear hW2 hb2)
      | (go_at_call 44;refine (looks_any HW2.out.ok).mono ?_;rintro e w3 ⟨rfl,hb3⟩;have HB3:=hid2 hb3;clear hb3))
     have HF:Hid (∃ vP vH F H ps Gs,WW w.heap.size w3 w1.heap.size vP vH F H ps Gs∧H.length≤8*(k+1)):=⟨vP2,vH2,F2,H2,ps2,Gs2,HW2.out.below HB3.out,by omega⟩
     go_roundw
     case rel=>exact ⟨k+1,hlt,by go_num,HF,hid2 ((HBL.out.trans HB2.out).trans (HB3.out.mono (Nat.le_trans HBL.out.size HB2.out.size)))⟩
     case measure=>simp [intOf];omega
  ·obtain rfl:k=n:=by omega
   go_wp2
   go_ret
   exact ⟨rfl,HBL.out⟩
theorem opT0:OpT ⟨0,0,0,0,0,0⟩:=⟨by decide,by decide,by decide,by decide,by decide,by decide⟩
theorem opTa:OpT ⟨1,1,1,1,0,97⟩:=⟨by decide,by decide,by decide,by decide,by decide,by decide⟩
theorem opTc:OpT ⟨1,2,1,3,1048577,99⟩:=⟨by decide,by decide,by decide,by decide,by decide,by decide⟩
theorem opP_of {f:Nat→Value} (n:Int) (o:Opn) (a c:Int) (hn:-9223372036854775808≤n∧n≤9223372036854775807) (hT:OpT o) (ha:-9223372036854775808≤a∧a≤9223372036854775807) (h:f 1=.int .i64 n∧f 12=.int .i64 o.kd∧f 13=.int .u32 o.cl∧f 14=.int .u32 o.ck∧f 15=.int .u32 o.st∧f 16=.int .u64 o.rf∧f 17=.int .i32 o.ch∧f 19=.int .i64 a∧f 20=.int .i32 c) (hl:∃ l:Int,f 21=.int .u64 l) (hh:∃ l:Int,f 22=.int .u64 l):OpP f:=
 ⟨⟨n,h.1,hn⟩,⟨o,hT,h.2.1,h.2.2.1,h.2.2.2.1,h.2.2.2.2.1,h.2.2.2.2.2.1,h.2.2.2.2.2.2.1⟩,⟨a,h.2.2.2.2.2.2.2.1,ha⟩,⟨c,h.2.2.2.2.2.2.2.2⟩,hl,hh⟩
theorem exC_P (sA sX sB sC:ByteArray) (r:Nat):∀ i,i<24→OpP fun j=>((exC sA sX sB sC r)[i*23+j]?).getD .nilFunc:=fun i hi=>by
 match i,hi with
 | 0,_=>exact opP_of 0 ⟨1,1,1,1,0,97⟩ 0 0 (by decide) opTa (by decide) ⟨rfl,rfl,rfl,rfl,rfl,rfl,rfl,rfl,rfl⟩ ⟨_,rfl⟩ ⟨_,rfl⟩
 | 1,_=>exact opP_of 0 ⟨0,0,0,0,0,0⟩ 0 0 (by decide) opT0 (by decide) ⟨rfl,rfl,rfl,rfl,rfl,rfl,rfl,rfl,rfl⟩ ⟨_,rfl⟩ ⟨_,rfl⟩
 | 2,_=>exact opP_of 0 ⟨0,0,0,0,0,0⟩ 0 0 (by decide) opT0 (by decide) ⟨rfl,rfl,rfl,rfl,rfl,rfl,rfl,rfl,rfl⟩ ⟨_,rfl⟩ ⟨_,rfl⟩
 | 3,_=>exact opP_of 0 ⟨0,0,0,0,0,0⟩ 0 0 (by decide) opT0 (by decide) ⟨rfl,rfl,rfl,rfl,rfl,rfl,rfl,rfl,rfl⟩ ⟨_,rfl⟩ ⟨_,rfl⟩
 | 4,_=>exact opP_of 0 ⟨0,0,0,0,0,0⟩ 0 0 (by decide) opT0 (by decide) ⟨rfl,rfl,rfl,rfl,rfl,rfl,rfl,rfl,rfl⟩ ⟨_,rfl⟩ ⟨_,rfl⟩
 | 5,_=>exact opP_of 0 ⟨0,0,0,0,0,0⟩ 0 0 (by decide) opT0 (by decide) ⟨rfl,rfl,rfl,rfl,rfl,rfl,rfl,rfl,rfl⟩ ⟨_,rfl⟩ ⟨_,rfl⟩
 | 6,_=>exact opP_of 0 ⟨0,0,0,0,0,0⟩ 0 0 (by decide) opT0 (by decide) ⟨rfl,rfl,rfl,rfl,rfl,rfl,rfl,rfl,rfl⟩ ⟨_,rfl⟩ ⟨_,rfl⟩
 | 7,_=>exact opP_of 0 ⟨0,0,0,0,0,0⟩ 0 97 (by decide) opT0 (by decide) ⟨rfl,rfl,rfl,rfl,rfl,rfl,rfl,rfl,rfl⟩ ⟨_,rfl⟩ ⟨_,rfl⟩
 | 8,_=>exact opP_of 0 ⟨0,0,0,0,0,0⟩ 1 98 (by decide) opT0 (by decide) ⟨rfl,rfl,rfl,rfl,rfl,rfl,rfl,rfl,rfl⟩ ⟨_,rfl⟩ ⟨_,rfl⟩
 | 9,_=>exact opP_of 0 ⟨0,0,0,0,0,0⟩ 1 100 (by decide) opT0 (by decide) ⟨rfl,rfl,rfl,rfl,rfl,rfl,rfl,rfl,rfl⟩ ⟨_,rfl⟩ ⟨_,rfl⟩
 | 10,_=>exact opP_of 0 ⟨1,2,1,3,1048577,99⟩ 0 0 (by decide) opTc (by decide) ⟨rfl,rfl,rfl,rfl,rfl,rfl,rfl,rfl,rfl⟩ ⟨_,rfl⟩ ⟨_,rfl⟩
 | 11,_=>exact opP_of 0 ⟨0,0,0,0,0,0⟩ 0 0 (by decide) opT0 (by decide) ⟨rfl,rfl,rfl,rfl,rfl,rfl,rfl,rfl,rfl⟩ ⟨_,rfl⟩ ⟨_,rfl⟩
 | 12,_=>exact opP_of 0 ⟨0,0,0,0,0,0⟩ 1 0 (by decide) opT0 (by decide) ⟨rfl,rfl,rfl,rfl,rfl,rfl,rfl,rfl,rfl⟩ ⟨_,rfl⟩ ⟨_,rfl⟩
 | 13,_=>exact opP_of 0 ⟨0,0,0,0,0,0⟩ 0 0 (by decide) opT0 (by decide) ⟨rfl,rfl,rfl,rfl,rfl,rfl,rfl,rfl,rfl⟩ ⟨_,rfl⟩ ⟨_,rfl⟩
 | 14,_=>exact opP_of 0 ⟨0,0,0,0,0,0⟩ 0 0 (by decide) opT0 (by decide) ⟨rfl,rfl,rfl,rfl,rfl,rfl,rfl,rfl,rfl⟩ ⟨_,rfl⟩ ⟨_,rfl⟩
 | 15,_=>exact opP_of 0 ⟨0,0,0,0,0,0⟩ 0 0 (by decide) opT0 (by decide) ⟨rfl,rfl,rfl,rfl,rfl,rfl,rfl,rfl,rfl⟩ ⟨_,rfl⟩ ⟨_,rfl⟩
 | 16,_=>exact opP_of 0 ⟨0,0,0,0,0,0⟩ 0 0 (by decide) opT0 (by decide) ⟨rfl,rfl,rfl,rfl,rfl,rfl,rfl,rfl,rfl⟩ ⟨_,rfl⟩ ⟨_,rfl⟩
 | 17,_=>exact opP_of 1 ⟨0,0,0,0,0,0⟩ 0 0 (by decide) opT0 (by decide) ⟨rfl,rfl,rfl,rfl,rfl,rfl,rfl,rfl,rfl⟩ ⟨_,rfl⟩ ⟨_,rfl⟩
 | 18,_=>exact opP_of 1 ⟨0,0,0,0,0,0⟩ 0 0 (by decide) opT0 (by decide) ⟨rfl,rfl,rfl,rfl,rfl,rfl,rfl,rfl,rfl⟩ ⟨_,rfl⟩ ⟨_,rfl⟩
 | 19,_=>exact opP_of 0 ⟨0,0,0,0,0,0⟩ 0 0 (by decide) opT0 (by decide) ⟨rfl,rfl,rfl,rfl,rfl,rfl,rfl,rfl,rfl⟩ ⟨_,rfl⟩ ⟨_,rfl⟩
 | 20,_=>exact opP_of 0 ⟨0,0,0,0,0,0⟩ 0 0 (by decide) opT0 (by decide) ⟨rfl,rfl,rfl,rfl,rfl,rfl,rfl,rfl,rfl⟩ ⟨_,rfl⟩ ⟨_,rfl⟩
 | 21,_=>exact opP_of 0 ⟨0,0,0,0,0,0⟩ 0 0 (by decide) opT0 (by decide) ⟨rfl,rfl,rfl,rfl,rfl,rfl,rfl,rfl,rfl⟩ ⟨_,rfl⟩ ⟨_,rfl⟩
 | 22,_=>exact opP_of 0 ⟨0,0,0,0,0,0⟩ 0 0 (by decide) opT0 (by decide) ⟨rfl,rfl,rfl,rfl,rfl,rfl,rfl,rfl,rfl⟩ ⟨_,rfl⟩ ⟨_,rfl⟩
 | 23,_=>exact opP_of 0 ⟨0,0,0,0,0,0⟩ 0 0 (by decide) opT0 (by decide) ⟨rfl,rfl,rfl,rfl,rfl,rfl,rfl,rfl,rfl⟩ ⟨_,rfl⟩ ⟨_,rfl⟩
 | n+24,h=>exact absurd h (by omega)
theorem examW_any (w:World) (hE:Env w) (hg9:15≤w.heap.size) :
  Calls Tryz.prog 15 #[.int .i64 4,.int .i64 10] w fun e w'=>e=.returned (.bool true)∧Below w.heap.size w w':=by
 refine exam_gen 4 10 w fun W r sA sX sB sC hW hr hA hB h1 h2 h3 h4=>?_
 have hb:=below1 W (.cells (exC sA sX sB sC r) 85)
 have hWb:=hW.trans (hb.mono hW.size)
 refine upToW_any _ 24 24 _ (fun i j=>((exC sA sX sB sC r)[i*23+j]?).getD .nilFunc) (by decide) (fun i hi=>⟨W.heap.size,0,rfl,fun j hj=>?_,exC_ok sA sX sB sC r h1 h2 h3 h4 i hi,exC_P sA sX sB sC r i hi⟩) (hE.below hWb) (Nat.le_trans hg9 hWb.size)
 have hsz:(exC sA sX sB sC r).size=552:=rfl
 rw [Nat.zero_add,cell_of_row _ _ _ _ _ _ (heap_alloc_new W _),Array.getElem?_eq_getElem (by omega)]
 rfl
theorem rootsL_any (a:Option Addr) (n cap:Nat) (w:World) (f:Nat→Nat→Value) (hn:n*184≤140737488351232) (hS:∀ i,i<n→∃ g off,a=some ⟨g,off,none⟩∧(∀ j,j<23→w.cell? ⟨g,off+i*23+j,none⟩=some (f i j))∧OpIs (f i)∧OpP (f i)) (hEn:Env w) (hg9:15≤w.heap.size) :
  Calls Tryz.prog 6 #[.slice a n cap] w fun e w'=>e=.returned (.bool true)∧Below w.heap.size w w':=by
 have hE:=examW_any w hEn hg9
 have hU:∀ W,Below w.heap.size w W→Calls Tryz.prog 16 #[.slice a n cap,.int .i64 4,.int .i64 10] W fun e w'=>e=.returned (.int .i64 (-1))∧Below W.heap.size W w':=fun W hW=>
  upToW_any a n cap W f hn (fun i hi=>by
   obtain ⟨g,off,e,hc,ho,hF⟩:=hS i hi
   exact ⟨g,off,e,fun j hj=>(hW.cell (block_lt_of_cell (hc j hj))).trans (hc j hj),ho,hF⟩) (hEn.below hW) (Nat.le_trans hg9 hW.size)
 have HE:Hid (Calls _ _ _ _ _):=hE
 have HU:Hid (∀ W,Below w.heap.size w W→Calls Tryz.prog 16 #[.slice a n cap,.int .i64 4,.int .i64 10] W fun e w'=>e=.returned (.int .i64 (-1))∧Below W.heap.size W w'):=hU
 clear hE hU hS hEn
 go_enter Tryz.func6,Tryz.ntmps6
 go_wp2_with (first
  | (go_at_call 15;refine HE.out.mono ?_;rintro e w1 ⟨rfl,hb1⟩)
  | (go_at_call 16;refine (HU.out _ hb1).mono ?_;rintro e w2 ⟨rfl,hb2⟩))
 go_ret
 exact ⟨rfl,hb1.trans (hb2.mono hb1.size)⟩
end Go.Proofs.YtgccjefbedpmpaaGreatDoor

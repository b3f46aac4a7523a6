import Derived.Test.YtgccjefbedpmpaaGreatDoorXLaw1
namespace Go.Proofs.YtgccjefbedpmpaaGreatDoor
open Go.RowKit
set_option maxRecDepth 100000
set_option maxHeartbeats 8000000
def opX (k n:Int) (o:Opn) (at' ch:Int) (x2 x3 x4 x5 x6 x7 x8 x9 x10 x11 x18 x21 x22:Value) (j:Nat):Value:=match j with
 | 0=>.int .i64 k
 | 1=>.int .i64 n
 | 2=>x2
 | 3=>x3
 | 4=>x4
 | 5=>x5
 | 6=>x6
 | 7=>x7
 | 8=>x8
 | 9=>x9
 | 10=>x10
 | 11=>x11
 | 12=>.int .i64 o.kd
 | 13=>.int .u32 o.cl
 | 14=>.int .u32 o.ck
 | 15=>.int .u32 o.st
 | 16=>.int .u64 o.rf
 | 17=>.int .i32 o.ch
 | 18=>x18
 | 19=>.int .i64 at'
 | 20=>.int .i32 ch
 | 21=>x21
 | _=>x22
theorem opX_row (k n:Int) (o:Opn) (at' ch:Int) (x2 x3 x4 x5 x6 x7 x8 x9 x10 x11 x18 x21 x22:Value):#[.int .i64 k,.int .i64 n,x2,x3,x4,x5,x6,x7,x8,x9,x10,x11,.int .i64 o.kd,.int .u32 o.cl,.int .u32 o.ck,.int .u32 o.st,.int .u64 o.rf,.int .i32 o.ch,x18,.int .i64 at',.int .i32 ch,x21,x22]=rowOf 23 (opX k n o at' ch x2 x3 x4 x5 x6 x7 x8 x9 x10 x11 x18 x21 x22):=by kernel_rfl
theorem pick_any (c:Int) (n:Nat) (hn:1≤n) (hn4:n≤4) (h0:-9223372036854775808≤c) (h1:c≤9223372036854775807) (w:World):Calls Tryz.prog 77 #[.int .i64 c,.int .i64 n] w fun e w'=>(∃ i:Nat,i<n∧e=.returned (.int .i64 i))∧w'=w:=by
 rcases Int.lt_or_le c 0 with h|h
 ·obtain ⟨m,hm⟩:∃ m:Nat,-(c+1)=(m:Int):=⟨(-(c+1)).toNat,by omega⟩
  have hmn:m % n<n:=Nat.mod_lt _ (by omega)
  have hz:(n:Int)≠0:=by omega
  have e1:(m:Int).tmod (n:Int)=((m % n:Nat):Int):=by rw [Int.tmod_eq_emod_of_nonneg (by omega)];simp
  go_enter Tryz.func77,Tryz.ntmps77
  go_wp2_with fail
  go_ret
  exact ⟨⟨m % n,hmn,by first|rfl|(rw [← e1];rfl)⟩,rfl⟩
 ·obtain ⟨m,rfl⟩:∃ m:Nat,c=(m:Int):=⟨c.toNat,by omega⟩
  have hmn:m % n<n:=Nat.mod_lt _ (by omega)
  have hz:(n:Int)≠0:=by omega
  have e1:(m:Int).tmod (n:Int)=((m % n:Nat):Int):=by rw [Int.tmod_eq_emod_of_nonneg (by omega)];simp
  go_enter Tryz.func77,Tryz.ntmps77
  go_wp2_with fail
  go_ret
  exact ⟨⟨m % n,hmn,by first|rfl|(rw [← e1];rfl)⟩,rfl⟩
section
variable {P : Program} {md : Region.Mode} {ops : Array Oper} {Q : Exit → Act → World → Prop} {S : World → Prop}
theorem wFp {F F':World→Prop} {fuel:Nat} {listed:Array Bool} {a:Act} {w:World} (f:∀ w,S w→F w) (k:Hid (∀ w,S w→F' w)→wpAnyH P md ops Q S fuel listed a w) (hF:∀ w,F w=F' w:=by (intro w;simp only [Nat.zero_add,pl2,opX,wcell];rfl)):wpAnyH P md ops Q S fuel listed a w:=
 k fun w h=>hF w▸f w h
end
theorem stepAdd (n:Int) (o:Opn) (at' ch:Int) (x2 x3 x4 x5 x6 x7 x8 x9 x10 x11 x18 x21 x22:Value) (hnb:-9223372036854775808≤n∧n≤9223372036854775807) (hT:OpT o) (wd:Nat) (vP vH:Value) (F:Nat→Prop) (hs ps:List Nat) (Gs:Nat→Nat→Prop) (B:Nat) (w:World) (HH:WW B w wd vP vH F hs ps Gs) (hpl:1≤ps.length) :
  Calls Tryz.prog 43 #[.pointer (some ⟨wd,0,none⟩),.agg #[.int .i64 7,.int .i64 n,x2,x3,x4,x5,x6,x7,x8,x9,x10,x11,.int .i64 o.kd,.int .u32 o.cl,.int .u32 o.ck,.int .u32 o.st,.int .u64 o.rf,.int .i32 o.ch,x18,.int .i64 at',.int .i32 ch,x21,x22]] w fun e w'=>e=.returned (.bool true)∧∃ Gs',WW B w' wd vP vH F hs ps Gs'∧Below B w w':=by
 obtain ⟨gP,cP,rfl⟩:∃ gP cP,vP=.slice (some ⟨gP,0,none⟩) ps.length cP:=by
  rcases HH.own.2 with ⟨e,e1⟩|⟨g,cap,cur,e,_⟩
  ·omega
  ·exact ⟨g,cap,e⟩
 have HW:=hid2 HH
 have HPs:Hid (∀ i (hi:i<ps.length) W,Below w.heap.size w W→W.cell? ⟨gP,i,none⟩=some (.pointer (some ⟨ps[i],0,none⟩))):=fun i hi W hW=>by
  have h:=World.ownsRow.cellAt (HW.out.below hW).own i (by omega)
  rw [h]
  unfold ptrs
  rw [List.getElem?_map,List.getElem?_eq_getElem hi]
  rfl
 have HB0:=hid2 (below1' w (.cells #[.int .i64 7,.int .i64 n,x2,x3,x4,x5,x6,x7,x8,x9,x10,x11,.int .i64 o.kd,.int .u32 o.cl,.int .u32 o.ck,.int .u32 o.st,.int .u64 o.rf,.int .i32 o.ch,x18,.int .i64 at',.int .i32 ch,x21,x22] 85))
 have HX0:Hid (RowIs (w.alloc (.cells #[.int .i64 7,.int .i64 n,x2,x3,x4,x5,x6,x7,x8,x9,x10,x11,.int .i64 o.kd,.int .u32 o.cl,.int .u32 o.ck,.int .u32 o.st,.int .u64 o.rf,.int .i32 o.ch,x18,.int .i64 at',.int .i32 ch,x21,x22] 85)) w.heap.size 85 23 (opX 7 n o at' ch x2 x3 x4 x5 x6 x7 x8 x9 x10 x11 x18 x21 x22)):=RowIs.last rfl (opX_row 7 n o at' ch x2 x3 x4 x5 x6 x7 x8 x9 x10 x11 x18 x21 x22)
 have c72:=(HW.out.below HB0.out).ok.row.cell (j:=72) (by omega)
 simp only [wcell] at c72
 have hlen:((ps.length:Int)==0)=false:=by simp only [beq_eq_false_iff_ne];omega
 clear HH
 go_enter Tryz.func43,Tryz.ntmps43
 go_wp2_with fail
 refine wp_region_held_drew (S:=fun W=>Below w.heap.size w W∧RowIs W w.heap.size 85 23 (opX 7 n o at' ch x2 x3 x4 x5 x6 x7 x8 x9 x10 x11 x18 x21 x22)) (by kernel_rfl) ⟨HB0.out.trans ((Below.refl _ _).drew.mono HB0.out.size),HX0.out.drew⟩ (fun hHeld=>?_)
 clear HB0 HX0 c72
 generalize World.drew _=wD at hHeld ⊢
 refine wFp (fun _ h=>aI ((HW.out.below h.1).ok.row.cell (j:=72) (by omega)) (h.2.cell (j:=1) (by omega))) fun t1=>?_
 refine tkx 0 44 t1 ?_
 refine tkx 1 45 t1 ?_
 refine tkx 2 46 t1 ?_
 refine tkx 3 47 t1 ?_
 refine tkx 4 48 t1 ?_
 refine tkx 5 49 t1 ?_
 refine tkx 6 50 t1 ?_
 refine tkx 7 51 t1 ?_
 refine tkx 8 52 t1 ?_
 refine tkx 9 53 t1 ?_
 refine tkx 10 54 t1 ?_
 refine rd 11 (some 55) rfl (fun K hK=>?_)
 go_simp
 refine (pick_any n ps.length hpl HW.out.len hnb.1 hnb.2 _).mono ?_
 rintro e w4 ⟨⟨i,hi,rfl⟩,hw4⟩
 obtain rfl:=hw4.symm
 refine hK.out _ _ hHeld fun hHeld=>?_
 have HPc:=hid2 (HPs.out i hi)
 have li:(i:Int)<(ps.length:Int):=by omega
 clear hK K
 refine wFp (fun W h=>aI ((HW.out.below h.1).ok.row.cell (j:=72) (by omega)) (aI (h.2.cell (j:=1) (by omega)) (HPc.out W h.1))) fun t2=>?_
 refine tkx 12 56 t2 ?_
 refine tkx 13 57 t2 ?_
 refine rdg 14 (some 5) ?_
 refine wdn ?_
 obtain ⟨xb,rb,cl,ss,top,vW,vK,t,ws,vL,vR,p,hG⟩:=HW.out.ply i hi
 have HP:=hid2 p
 have HG:=hid2 hG
 have hbx:=p.book.row.lt
 have hbr:=p.ref.row.lt
 have HVW:Hid (∀ x,vW.ownBlock=some x→x<w.heap.size):=fun x hx=>(World.ownsRow.lt p.book.own x hx).2
 clear p hG HPs HPc
 have b0:=hHeld.2.cell (j:=0) (by omega)
 simp only [opX] at b0
 have HD:=hid2 (hHeld.1.trans ((Below.refl _ _).drew.mono hHeld.1.size))
 have HX:=hid2 hHeld.2.drew
 go_wp2_with fail
 clear b0 hHeld
 refine wp_region_held_drew (S:=fun W=>RowIs W w.heap.size 85 23 (opX 7 n o at' ch x2 x3 x4 x5 x6 x7 x8 x9 x10 x11 x18 x21 x22)∧RowIs W ps[i] 150 2 (pl2 xb rb)) (by kernel_rfl) ⟨HX.out,HP.out.row.below HD.out HP.out.row.lt⟩ (fun hHeld=>?_)
 generalize World.drew _=wE at HD HX hHeld ⊢
 have HE:=hid2 (addM_list (o:=o) HP.out.ok)
 have HA:=hid2 (rAdd_any xb cl ss top vW vK t ws o wE (HP.out.book.below HD.out) HP.out.ok.by' hT)
 have HNX:Hid (∀ x,w.heap.size≤x→¬ (x=xb∨vW.ownBlock=some x)):=fun x hx e=>by
  rcases e with e|e
  ·omega
  ·have:=HVW.out x e;omega
 refine wFp (fun _ h=>aI (h.2.cell (j:=0) (by omega)) (aI (h.2.cell (j:=1) (by omega)) (aI (h.1.cell (j:=12) (by omega)) (aI (h.1.cell (j:=13) (by omega)) (aI (h.1.cell (j:=14) (by omega)) (aI (h.1.cell (j:=15) (by omega)) (aI (h.1.cell (j:=16) (by omega)) (h.1.cell (j:=17) (by omega))))))))) fun t1=>?_
 refine tkx 0 126 t1 ?_
 refine tkx 1 127 t1 ?_
 refine tkx 2 128 t1 ?_
 refine tkx 3 129 t1 ?_
 refine tkx 4 130 t1 ?_
 refine tkx 5 131 t1 ?_
 refine tkx 7 133 t1 ?_
 refine tkx 8 134 t1 ?_
 refine tkx 9 135 t1 ?_
 refine tkx 10 136 t1 ?_
 refine tkx 11 137 t1 ?_
 refine tkx 12 138 t1 ?_
 refine rd 6 (some 132) rfl (fun K hK=>?_)
 go_simp
 refine HA.out.mono ?_
 rintro e w1 ⟨rfl,hA1⟩
 rw [HE.out.1]
 have hbt:=hA1.but
 have R1:=HX.out.but hbt (HNX.out _ (Nat.le_refl _))
 have P1:=HP.out.rowX HD.out hbt
 have F1:=hid2 (refAdd_any rb cl vL vR 0 false (.slice none 0 0) t.list ws o w1 (HP.out.refX HD.out hbt) HP.out.ok hT)
 have HA1:=hid2 hA1
 have HX1:=hid2 R1
 refine hK.out _ _ ⟨R1,P1⟩ (fun hHeld=>?_)
 clear hK K hbt R1 P1 hA1 HA
 refine rd 13 (some 139) rfl (fun K hK=>?_)
 go_simp
 refine F1.out.mono ?_
 rintro e w2 ⟨rfl,hR2⟩
 have hbt:But (fun x=>x=rb) w1 w2:=(by obtain ⟨_,_,_,_,_,k⟩:=hR2;exact k)
 have R2:=HX1.out.but hbt (fun e=>(by have:w.heap.size=rb:=e;omega))
 have P2:=hHeld.2.but hbt (fun e=>absurd (RowIs.type_eq hHeld.2 ((show ps[i]=rb from e)▸(HP.out.refX HD.out HA1.out.but).row)) (by decide))
 have HR2:=hid2 hR2
 refine hK.out _ _ ⟨R2,P2⟩ (fun hHeld=>?_)
 clear hK K hbt R2 P2 hR2 F1
 refine tkx 14 140 t1 ?_
 refine rdg 15 (some 4) ?_
 refine wdn ?_
 clear hHeld
 go_wp2_with fail
 go_ret
 exact ⟨by simp,HW.out.move hi (HP.out.write HG.out HD.out HA1.out (Below.refl _ _) HR2.out HE.out.2.1 HE.out.2.2 (addN_ok HP.out.ok) (addM_H HP.out.heap HP.out.ok))⟩
theorem gone_len {os:List Opn} (h:SetOk os):(goneOf os).length<4611686018427387904:=by
 have h1:=h.len
 have h2:=List.length_filter_le (fun o:Opn=>decide (¬ o.kd=1)) os
 unfold goneOf
 rw [List.length_map]
 omega
theorem ok_ch {o:Opn} (h:o.ok=true):-2147483648≤o.ch∧o.ch≤2147483647:=by
 rcases ok_kd h with q|q
 ·have:=q.2.1
  unfold okChar at this
  simp only [Bool.and_eq_true,decide_eq_true_eq] at this
  omega
 ·omega
theorem stepText (n:Int) (o:Opn) (at' ch:Int) (x2 x3 x4 x5 x6 x7 x8 x9 x10 x11 x18 x21 x22:Value) (hnb:-9223372036854775808≤n∧n≤9223372036854775807) (wd:Nat) (vP vH:Value) (F:Nat→Prop) (hs ps:List Nat) (Gs:Nat→Nat→Prop) (B:Nat) (w:World) (HH:WW B w wd vP vH F hs ps Gs) (hpl:1≤ps.length) :
  Calls Tryz.prog 43 #[.pointer (some ⟨wd,0,none⟩),.agg #[.int .i64 8,.int .i64 n,x2,x3,x4,x5,x6,x7,x8,x9,x10,x11,.int .i64 o.kd,.int .u32 o.cl,.int .u32 o.ck,.int .u32 o.st,.int .u64 o.rf,.int .i32 o.ch,x18,.int .i64 at',.int .i32 ch,x21,x22]] w fun e w'=>e=.returned (.bool true)∧∃ Gs',WW B w' wd vP vH F hs ps Gs'∧Below B w w':=by
 obtain ⟨gP,cP,rfl⟩:∃ gP cP,vP=.slice (some ⟨gP,0,none⟩) ps.length cP:=by
  rcases HH.own.2 with ⟨e,e1⟩|⟨g,cap,cur,e,_⟩
  ·omega
  ·exact ⟨g,cap,e⟩
 have HW:=hid2 HH
 have HPs:Hid (∀ i (hi:i<ps.length) W,Below w.heap.size w W→W.cell? ⟨gP,i,none⟩=some (.pointer (some ⟨ps[i],0,none⟩))):=fun i hi W hW=>by
  have h:=World.ownsRow.cellAt (HW.out.below hW).own i (by omega)
  rw [h]
  unfold ptrs
  rw [List.getElem?_map,List.getElem?_eq_getElem hi]
  rfl
 have HB0:=hid2 (below1' w (.cells #[.int .i64 8,.int .i64 n,x2,x3,x4,x5,x6,x7,x8,x9,x10,x11,.int .i64 o.kd,.int .u32 o.cl,.int .u32 o.ck,.int .u32 o.st,.int .u64 o.rf,.int .i32 o.ch,x18,.int .i64 at',.int .i32 ch,x21,x22] 85))
 have HX0:Hid (RowIs (w.alloc (.cells #[.int .i64 8,.int .i64 n,x2,x3,x4,x5,x6,x7,x8,x9,x10,x11,.int .i64 o.kd,.int .u32 o.cl,.int .u32 o.ck,.int .u32 o.st,.int .u64 o.rf,.int .i32 o.ch,x18,.int .i64 at',.int .i32 ch,x21,x22] 85)) w.heap.size 85 23 (opX 8 n o at' ch x2 x3 x4 x5 x6 x7 x8 x9 x10 x11 x18 x21 x22)):=RowIs.last rfl (opX_row 8 n o at' ch x2 x3 x4 x5 x6 x7 x8 x9 x10 x11 x18 x21 x22)
 have c72:=(HW.out.below HB0.out).ok.row.cell (j:=72) (by omega)
 simp only [wcell] at c72
 have hlen:((ps.length:Int)==0)=false:=by simp only [beq_eq_false_iff_ne];omega
 clear HH
 go_enter Tryz.func43,Tryz.ntmps43
 go_wp2_with fail
 refine wp_region_held_drew (S:=fun W=>Below w.heap.size w W∧RowIs W w.heap.size 85 23 (opX 8 n o at' ch x2 x3 x4 x5 x6 x7 x8 x9 x10 x11 x18 x21 x22)) (by kernel_rfl) ⟨HB0.out.trans ((Below.refl _ _).drew.mono HB0.out.size),HX0.out.drew⟩ (fun hHeld=>?_)
 clear HB0 HX0 c72
 generalize World.drew _=wD at hHeld ⊢
 refine wFp (fun _ h=>aI ((HW.out.below h.1).ok.row.cell (j:=72) (by omega)) (h.2.cell (j:=1) (by omega))) fun t1=>?_
 refine tkx 0 44 t1 ?_
 refine tkx 1 45 t1 ?_
 refine tkx 2 46 t1 ?_
 refine tkx 3 47 t1 ?_
 refine tkx 4 48 t1 ?_
 refine tkx 5 49 t1 ?_
 refine tkx 6 50 t1 ?_
 refine tkx 7 51 t1 ?_
 refine tkx 8 52 t1 ?_
 refine tkx 9 53 t1 ?_
 refine tkx 10 54 t1 ?_
 refine rd 11 (some 55) rfl (fun K hK=>?_)
 go_simp
 refine (pick_any n ps.length hpl HW.out.len hnb.1 hnb.2 _).mono ?_
 rintro e w4 ⟨⟨i,hi,rfl⟩,hw4⟩
 obtain rfl:=hw4.symm
 refine hK.out _ _ hHeld fun hHeld=>?_
 have HPc:=hid2 (HPs.out i hi)
 have li:(i:Int)<(ps.length:Int):=by omega
 clear hK K
 refine wFp (fun W h=>aI ((HW.out.below h.1).ok.row.cell (j:=72) (by omega)) (aI (h.2.cell (j:=1) (by omega)) (HPc.out W h.1))) fun t2=>?_
 refine tkx 12 56 t2 ?_
 refine tkx 13 57 t2 ?_
 refine rdg 14 (some 5) ?_
 refine wdn ?_
 obtain ⟨xb,rb,cl,ss,top,vW,vK,t,ws,vL,vR,p,hG⟩:=HW.out.ply i hi
 have HP:=hid2 p
 have HG:=hid2 hG
 have hbx:=p.book.row.lt
 have hbr:=p.ref.row.lt
 have HVW:Hid (∀ x,vW.ownBlock=some x→x<w.heap.size):=fun x hx=>(World.ownsRow.lt p.book.own x hx).2
 clear p hG HPs HPc
 have b0:=hHeld.2.cell (j:=0) (by omega)
 simp only [opX] at b0
 have HD:=hid2 (hHeld.1.trans ((Below.refl _ _).drew.mono hHeld.1.size))
 have HX:=hid2 hHeld.2.drew
 go_wp2_with fail
 clear b0 hHeld
 obtain ⟨aW,cW,rfl⟩:=ownO_form HP.out.book.own
 obtain ⟨aR,cR,rfl⟩:=ownO_form HP.out.ref.hW
 refine wp_region_held_drew (S:=fun W=>RowIs W w.heap.size 85 23 (opX 8 n o at' ch x2 x3 x4 x5 x6 x7 x8 x9 x10 x11 x18 x21 x22)∧RowIs W ps[i] 150 2 (pl2 xb rb)∧W.cell? ⟨rb,74,none⟩=some (.slice aR ws.length cR)) (by kernel_rfl) ⟨HX.out,HP.out.row.below HD.out HP.out.row.lt,(HP.out.ref.below HD.out).W⟩ (fun hHeld=>?_)
 generalize World.drew _=wE at HD HX hHeld ⊢
 have HTx:=hid2 (rText_any xb cl ss top (.slice aW ws.length cW) vK t wE (HP.out.book.below HD.out).row (HP.out.book.below HD.out).tree ⟨HP.out.ok.set.tellable,sortU_any _ (gone_len HP.out.ok.set),fun x hx=>ok_ch (HP.out.ok.set.ok x hx)⟩)
 refine wFp (fun _ h=>aI (h.2.1.cell (j:=0) (by omega)) (aI (h.2.1.cell (j:=1) (by omega)) h.2.2)) fun t1=>?_
 refine tkx 0 143 t1 ?_
 refine tkx 1 144 t1 ?_
 refine tkx 2 145 t1 ?_
 refine tkx 3 146 t1 ?_
 refine tkx 5 148 t1 ?_
 refine tkx 6 149 t1 ?_
 refine tkx 7 150 t1 ?_
 refine tkx 8 151 t1 ?_
 refine rd 4 (some 147) rfl (fun K hK=>?_)
 go_simp
 refine HTx.out.mono ?_
 rintro e w1 ⟨⟨xs,hxp,hxs,rfl⟩,hr1,hk1⟩
 rw [TextL.vis HP.out.ok.set.by' ⟨xs,hxp,hxs,rfl⟩]
 have HP1:=hid2 (HP.out.held HD.out hr1 hk1)
 have HK1:=hid2 ((But.below HD.out).trans hk1)
 have R1:=HX.out.but hk1 (fun e=>(by have:w.heap.size=xb:=e;omega))
 have HX1:=hid2 R1
 refine hK.out _ _ ⟨R1,HP1.out.row,HP1.out.ref.W⟩ (fun hHeld=>?_)
 clear hK K R1 hr1 hk1 HTx hxp hxs
 refine rd 9 (some 152) rfl (fun K hK=>?_)
 go_simp
 refine (refText_any rb cl vL (.slice aR ws.length cR) 0 false (.slice none 0 0) t.list ws w1 HP1.out.ref HP1.out.ok.set).mono ?_
 rintro e w2 ⟨rfl,hb2⟩
 have HP2:=hid2 (HP1.out.below hb2)
 have HK2:=hid2 (HK1.out.trans (But.below hb2))
 have R2:=HX1.out.below hb2 HX1.out.lt
 have HX2:=hid2 R2
 refine hK.out _ _ ⟨R2,HP2.out.row,HP2.out.ref.W⟩ (fun hHeld=>?_)
 generalize (⟨(strOf (visR t.list)).toArray⟩:ByteArray)=TX
 clear hK K R2 hb2 HP1 HK1 HX1
 refine tkx 10 153 t1 ?_
 refine tkx 11 154 t1 ?_
 refine tkx 12 155 t1 ?_
 refine tkx 13 156 t1 ?_
 refine tkx 14 157 t1 ?_
 refine tkx 15 158 t1 ?_
 refine tkx 17 160 t1 ?_
 refine tkx 18 161 t1 ?_
 refine tkx 19 162 t1 ?_
 refine tkx 20 163 t1 ?_
 refine tkx 21 164 t1 ?_
 refine tkx 22 165 t1 ?_
 refine tkx 23 166 t1 ?_
 refine tkx 24 167 t1 ?_
 refine rd 16 (some 159) rfl (fun K hK=>?_)
 go_simp
 refine (rWaiting_any xb cl ss top vK aW ws.length cW w2 HP2.out.book.row).mono ?_
 rintro e w3 ⟨rfl,hr3,hk3⟩
 have HP3:=hid2 (HP2.out.held (Below.refl _ _) hr3 hk3)
 have HK3:=hid2 (HK2.out.trans hk3)
 have R3:=HX2.out.but hk3 (fun e=>(by have:w.heap.size=xb:=e;omega))
 refine hK.out _ _ ⟨R3,HP3.out.row,HP3.out.ref.W⟩ (fun hHeld=>?_)
 clear hK K R3 hr3 hk3 HP2 HK2 HX2
 refine tkx 25 168 t1 ?_
 refine tkx 26 169 t1 ?_
 refine rdg 27 (some 4) ?_
 refine wdn ?_
 clear hHeld
 go_wp2_with fail
 go_ret
 exact ⟨by simp,HW.out.move hi (HP.out.look HP3.out HG.out HK3.out)⟩
theorem keepOps {w w1 wk:World} {wd:Nat} {vP vH:Value} {F:Nat→Prop} {hs ps:List Nat} {Gs:Nat→Nat→Prop} {B:Nat} (h:WW B w wd vP vH F hs ps Gs) (hH:(hs.length+8)*8≤140737488355328) (hB:Below w.heap.size w w1) {s:Value} {os:List Opn} (hO:OwnO w1 w.heap.size s os) (hn:os.length≤1000) (hk:wk=w1.alloc (.cells #[.slice none 0 0,s,.slice none 0 0,.int .i64 0] 161)) :
  Calls Tryz.prog 83 #[.pointer (some ⟨wd,0,none⟩),.pointer (some ⟨w1.heap.size,0,none⟩)] wk fun e w'=>e=.returned (.tuple #[])∧∃ vH' F' hs',WW B w' wd vP vH' F' hs' ps Gs∧hs'.length=hs.length+4∧Below B w w':=by
 have ho:∀ b,ownX (.slice none 0 0) s (.slice none 0 0) b→w.heap.size≤b∧b<w1.heap.size:=fun b e=>by
  rcases e with e|e|e
  ·cases e
  ·exact World.ownsRow.lt hO b e
  ·cases e
 obtain ⟨hp,hx,hb⟩:=hold_pre h.ok hB _ hk ho
 have hraw:HoldRaw wk w1.heap.size 0 (.slice none 0 0) s (.slice none 0 0) 0 os.length 0 [] (opCs os) []:=by
  subst hk
  exact ⟨RowIs.new w1 161 4 (hold4 (.slice none 0 0) s (.slice none 0 0) 0),World.ownsRow_nil _ _ _ _,World.ownsRow.alloc (World.ownsRow.mono hO (Nat.zero_le _)) _,World.ownsRow_nil _ _ _ _⟩
 have s0:(hs.length+4)*8≤140737488355328:=by omega
 have s1:0+3≤140737488355328:=by omega
 have s2:(os.length+3)*40≤140737488355328:=by omega
 have s3:(0+3)*24≤140737488355328:=by omega
 have hmk:(0:Int)≤(hs.length:Int)+1∧(hs.length:Int)+1≤9223372036854775807:=by omega
 have hkp:=keep_any hp hraw s0 s1 s2 s3
 refine hkp.mono ?_
 rintro e w' ⟨rfl,n1,n2,n3,vH',hs',g,V1,V2,V3,ls,k⟩
 have hs1:=hb.size
 have hs2:=k.but.size
 have hw:=h.kept (k.ok hp hmk) (fun b e=>(k.lieH b e).elim Or.inl fun e=>Or.inr (Nat.le_trans hb.size e)) (fun b e=>e.elim Or.inl fun e=>Or.inr (by
  rcases e with e|e|e
  ·exact hx b (Or.inl e)
  ·exact hx b (Or.inr e)
  ·omega)) ⟨by omega,k.but.os.trans hb.os,k.but.tape.trans hb.tape,k.but.output.trans hb.output,fun b h1 h2=>(k.but.block b (by omega) fun e=>by
  rcases e with e|e|e|e
  ·exact h2 (Or.inl e)
  ·have:=hx b (Or.inl e);omega
  ·have:=hx b (Or.inr e);omega
  ·exact h2 (Or.inr e)).trans (hb.block b h1)⟩
 exact ⟨rfl,vH',_,hs',hw.1,k.len,hw.2⟩
theorem But.same {w w':World} {b n:Nat} {T:TypeId} {f:Nat→Value} (h:But (fun x=>x=b) w w') (h1:RowIs w b T n f) (h2:RowIs w' b T n f):Below w.heap.size w w':=
 ⟨h.os,h.tape,h.output,h.size,fun k hk=>by
  by_cases e:k=b
  ·subst e;unfold RowIs at h1 h2;rw [h1,h2]
  ·exact h.block k hk e⟩
theorem stepOps (n:Int) (o:Opn) (at' ch:Int) (x2 x3 x4 x5 x6 x7 x8 x9 x10 x11 x18 x21 x22:Value) (hnb:-9223372036854775808≤n∧n≤9223372036854775807) (wd:Nat) (vP vH:Value) (F:Nat→Prop) (hs ps:List Nat) (hH:(hs.length+8)*8≤140737488355328) (Gs:Nat→Nat→Prop) (B:Nat) (w:World) (HH:WW B w wd vP vH F hs ps Gs) (hpl:1≤ps.length) :
  Calls Tryz.prog 43 #[.pointer (some ⟨wd,0,none⟩),.agg #[.int .i64 9,.int .i64 n,x2,x3,x4,x5,x6,x7,x8,x9,x10,x11,.int .i64 o.kd,.int .u32 o.cl,.int .u32 o.ck,.int .u32 o.st,.int .u64 o.rf,.int .i32 o.ch,x18,.int .i64 at',.int .i32 ch,x21,x22]] w fun e w'=>e=.returned (.bool true)∧∃ vH' F' hs',WW B w' wd vP vH' F' hs' ps Gs∧hs'.length=hs.length+4∧Below B w w':=by
 obtain ⟨gP,cP,rfl⟩:∃ gP cP,vP=.slice (some ⟨gP,0,none⟩) ps.length cP:=by
  rcases HH.own.2 with ⟨e,e1⟩|⟨g,cap,cur,e,_⟩
  ·omega
  ·exact ⟨g,cap,e⟩
 have HW:=hid2 HH
 have HPs:Hid (∀ i (hi:i<ps.length) W,Below w.heap.size w W→W.cell? ⟨gP,i,none⟩=some (.pointer (some ⟨ps[i],0,none⟩))):=fun i hi W hW=>by
  have h:=World.ownsRow.cellAt (HW.out.below hW).own i (by omega)
  rw [h]
  unfold ptrs
  rw [List.getElem?_map,List.getElem?_eq_getElem hi]
  rfl
 have HB0:=hid2 (below1' w (.cells #[.int .i64 9,.int .i64 n,x2,x3,x4,x5,x6,x7,x8,x9,x10,x11,.int .i64 o.kd,.int .u32 o.cl,.int .u32 o.ck,.int .u32 o.st,.int .u64 o.rf,.int .i32 o.ch,x18,.int .i64 at',.int .i32 ch,x21,x22] 85))
 have HX0:Hid (RowIs (w.alloc (.cells #[.int .i64 9,.int .i64 n,x2,x3,x4,x5,x6,x7,x8,x9,x10,x11,.int .i64 o.kd,.int .u32 o.cl,.int .u32 o.ck,.int .u32 o.st,.int .u64 o.rf,.int .i32 o.ch,x18,.int .i64 at',.int .i32 ch,x21,x22] 85)) w.heap.size 85 23 (opX 9 n o at' ch x2 x3 x4 x5 x6 x7 x8 x9 x10 x11 x18 x21 x22)):=RowIs.last rfl (opX_row 9 n o at' ch x2 x3 x4 x5 x6 x7 x8 x9 x10 x11 x18 x21 x22)
 have c72:=(HW.out.below HB0.out).ok.row.cell (j:=72) (by omega)
 simp only [wcell] at c72
 have hlen:((ps.length:Int)==0)=false:=by simp only [beq_eq_false_iff_ne];omega
 clear HH
 go_enter Tryz.func43,Tryz.ntmps43
 go_wp2_with fail
 refine wp_region_held_drew (S:=fun W=>Below w.heap.size w W∧RowIs W w.heap.size 85 23 (opX 9 n o at' ch x2 x3 x4 x5 x6 x7 x8 x9 x10 x11 x18 x21 x22)) (by kernel_rfl) ⟨HB0.out.trans ((Below.refl _ _).drew.mono HB0.out.size),HX0.out.drew⟩ (fun hHeld=>?_)
 clear HB0 HX0 c72
 generalize World.drew _=wD at hHeld ⊢
 refine wFp (fun _ h=>aI ((HW.out.below h.1).ok.row.cell (j:=72) (by omega)) (h.2.cell (j:=1) (by omega))) fun t1=>?_
 refine tkx 0 44 t1 ?_
 refine tkx 1 45 t1 ?_
 refine tkx 2 46 t1 ?_
 refine tkx 3 47 t1 ?_
 refine tkx 4 48 t1 ?_
 refine tkx 5 49 t1 ?_
 refine tkx 6 50 t1 ?_
 refine tkx 7 51 t1 ?_
 refine tkx 8 52 t1 ?_
 refine tkx 9 53 t1 ?_
 refine tkx 10 54 t1 ?_
 refine rd 11 (some 55) rfl (fun K hK=>?_)
 go_simp
 refine (pick_any n ps.length hpl HW.out.len hnb.1 hnb.2 _).mono ?_
 rintro e w4 ⟨⟨i,hi,rfl⟩,hw4⟩
 obtain rfl:=hw4.symm
 refine hK.out _ _ hHeld fun hHeld=>?_
 have HPc:=hid2 (HPs.out i hi)
 have li:(i:Int)<(ps.length:Int):=by omega
 clear hK K
 refine wFp (fun W h=>aI ((HW.out.below h.1).ok.row.cell (j:=72) (by omega)) (aI (h.2.cell (j:=1) (by omega)) (HPc.out W h.1))) fun t2=>?_
 refine tkx 12 56 t2 ?_
 refine tkx 13 57 t2 ?_
 refine rdg 14 (some 5) ?_
 refine wdn ?_
 obtain ⟨xb,rb,cl,ss,top,vW,vK,t,ws,vL,vR,p,hG⟩:=HW.out.ply i hi
 have HD:=hid2 hHeld.1
 have HP:=hid2 (p.below hHeld.1)
 clear HPs HPc hG p
 have hlen2:=HP.out.ok.set.len
 have b0:=hHeld.2.cell (j:=0) (by omega)
 have p0:=HP.out.row.cell (j:=0) (by omega)
 simp only [opX] at b0
 simp only [pl2] at p0
 have HOp:=hid2 (rOps_any xb cl ss top vW vK t wD HP.out.book.row HP.out.book.tree (by omega))
 clear hHeld
 obtain ⟨aL,cL,rfl⟩:=ownK_form HP.out.ref.hL
 go_wp2_with (go_at_call 23;refine HOp.out.mono ?_;rintro e w1 ⟨⟨s,rfl,ho1⟩,hr1,hk1⟩;have HB1:=hid2 (hk1.same HP.out.book.row hr1);have HP1:=hid2 (HP.out.below HB1.out);have HO1:=hid2 ho1;have p1:=HP1.out.row.cell (j:=1) (by omega);simp only [pl2] at p1;have c73:=HP1.out.ref.L;obtain ⟨a1,n1,rfl⟩:=ownO_form ho1;clear ho1 hr1 hk1 HOp p0 b0)
 clear p1 c73
 obtain ⟨wo,rfl⟩:∃ wo:World,wo=wD:=⟨_,rfl⟩
 go_loopw [15,16] (fun kv iv wr=>kv=.bool true∧∃ j:Nat,j≤t.list.length∧iv=.int .i64 j∧Hid (Below w1.heap.size w1 wr)) (fun _ iv _=>t.list.length-(intOf iv).toNat)
 case atStart=>exact ⟨by simp,0,Nat.zero_le _,rfl,hid2 (Below.refl _ _)⟩
 case round=>
  obtain ⟨rfl,j,hj,rfl,HR⟩:=hrel
  by_cases hjl:j<t.list.length
  ·have lj:(j:Int)<(t.list.length:Int):=by omega
   rcases HO1.out.2 with ⟨e,e1⟩|⟨g,cap,cur,e,_⟩
   ·omega
   cases e
   rcases HP1.out.ref.hL.2 with ⟨e,e1⟩|⟨gL,capL,curL,e,_⟩
   ·omega
   cases e
   go_wp2_with fail
   refine wp_region_held_drew (S:=fun W=>Below w1.heap.size w1 W) (by kernel_rfl) (HR.out.trans ((Below.refl _ _).drew.mono HR.out.size)) (fun hHeld=>?_)
   generalize World.drew _=wG at hHeld ⊢
   clear HR
   refine wFp (fun _ h=>aI ((HP1.out.row.below h HP1.out.row.lt).cell (j:=1) (by omega)) (aI ((HP1.out.ref.below h).L) (aI (((OwnK.at0 HP1.out.ref.hL).below h).cells hjl) (((OwnO.at0 HO1.out).below h).cells hjl)))) fun t1=>?_
   refine tkx 0 197 t1 ?_
   refine tkx 1 198 t1 ?_
   refine tkx 2 199 t1 ?_
   refine tkx 3 200 t1 ?_
   refine tkx 4 201 t1 ?_
   refine tkx 5 202 t1 ?_
   refine tkx 6 203 t1 ?_
   refine tkx 7 204 t1 ?_
   refine tkx 8 205 t1 ?_
   refine tkx 9 206 t1 ?_
   refine tkx 10 207 t1 ?_
   refine tkx 11 208 t1 ?_
   refine tkx 12 209 t1 ?_
   refine tkx 13 210 t1 ?_
   refine tkx 14 211 t1 ?_
   refine tkx 15 212 t1 ?_
   refine rdg 16 (some 15) ?_
   refine wdn ?_
   go_wp2_with fail
   go_roundw
   case rel=>exact ⟨by simp,j+1,hjl,by go_num,hid2 hHeld⟩
   case measure=>simp [intOf];omega
  ·obtain rfl:j=t.list.length:=by omega
   have HWr:=hid2 (HD.out.trans ((HB1.out.trans (HR.out.mono HB1.out.size)).mono HD.out.size))
   have HOr:Hid (OwnO wr w.heap.size (.slice a1 t.list.length n1) t.list):=World.ownsRow.mono (ownO_keep HO1.out HR.out) HD.out.size
   have HKp:=hid2 (keepOps HW.out hH HWr.out HOr.out (by omega) rfl)
   go_wp2_with (go_at_call 83;refine HKp.out.mono ?_;rintro e w5 ⟨rfl,hk5⟩;have HK5:=hid2 hk5;clear hk5)
   go_ret
   exact ⟨rfl,HK5.out⟩
end Go.Proofs.YtgccjefbedpmpaaGreatDoor

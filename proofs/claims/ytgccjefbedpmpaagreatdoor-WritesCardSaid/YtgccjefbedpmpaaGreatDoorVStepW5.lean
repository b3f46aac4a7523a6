import Derived.Test.YtgccjefbedpmpaaGreatDoorVStepW0
namespace Go.Proofs.YtgccjefbedpmpaaGreatDoor
open Go.RowKit
set_option maxRecDepth 100000
set_option maxHeartbeats 8000000
theorem TakeP.of {b : Nat} {st cl ss : Int} {vK vW : Value} {R : Tr × List Opn} {w W w' : World} (h : TakeP b st cl ss vK vW R W w') (hb : Below w.heap.size w W) : TakeP b st cl ss vK vW R w w' := by
 obtain ⟨top, v', B, e, k⟩ := h
 exact ⟨top, v', B, e, (But.below hb).trans k⟩
theorem TakeP.grow {b : Nat} {st cl ss : Int} {vK vW : Value} {R : Tr × List Opn} {w w1 w' : World} (h : TakeP b st cl ss vK vW R w w1) (hb : Below w1.heap.size w1 w') : TakeP b st cl ss vK vW R w w' := by
 obtain ⟨top, v', B, e, k⟩ := h
 exact ⟨top, v', B.below hb, e, k.trans (But.below hb)⟩
theorem stepIns (n : Int) (o : Opn) (at' ch : Int) (x2 x3 x4 x5 x6 x7 x8 x9 x10 x11 x18 x21 x22 : Value) (hnb : -9223372036854775808 ≤ n ∧ n ≤ 9223372036854775807) (hat : -9223372036854775808 ≤ at' ∧ at' ≤ 9223372036854775807) (wd : Nat) (vP vH : Value) (F : Nat → Prop) (hs ps : List Nat) (Gs : Nat → Nat → Prop) (B : Nat) (w : World) (HH : WW B w wd vP vH F hs ps Gs) (hpl : 1 ≤ ps.length) :
  Calls Tryz.prog 43 #[.pointer (some ⟨wd, 0, none⟩), .agg #[.int .i64 5, .int .i64 n, x2, x3, x4, x5, x6, x7, x8, x9, x10, x11, .int .i64 o.kd, .int .u32 o.cl, .int .u32 o.ck, .int .u32 o.st, .int .u64 o.rf, .int .i32 o.ch, x18, .int .i64 at', .int .i32 ch, x21, x22]] w fun e w' => e = .returned (.bool true) ∧ ∃ Gs', WW B w' wd vP vH F hs ps Gs' ∧ Below B w w' := by
 obtain ⟨gP, cP, rfl⟩ : ∃ gP cP, vP = .slice (some ⟨gP, 0, none⟩) ps.length cP := by
  rcases HH.own.2 with ⟨e, e1⟩ | ⟨g, cap, cur, e, _⟩
  ·omega
  ·exact ⟨g, cap, e⟩
 have HW := hid2 HH
 have HPs : Hid (∀ i (hi : i < ps.length) W, Below w.heap.size w W → W.cell? ⟨gP, i, none⟩ = some (.pointer (some ⟨ps[i], 0, none⟩))) := fun i hi W hW => by
  have h := World.ownsRow.cellAt (HW.out.below hW).own i (by omega)
  rw [h]
  unfold ptrs
  rw [List.getElem?_map, List.getElem?_eq_getElem hi]
  rfl
 have HB0 := hid2 (below1' w (.cells #[.int .i64 5, .int .i64 n, x2, x3, x4, x5, x6, x7, x8, x9, x10, x11, .int .i64 o.kd, .int .u32 o.cl, .int .u32 o.ck, .int .u32 o.st, .int .u64 o.rf, .int .i32 o.ch, x18, .int .i64 at', .int .i32 ch, x21, x22] 85))
 have HX0 : Hid (RowIs (w.alloc (.cells #[.int .i64 5, .int .i64 n, x2, x3, x4, x5, x6, x7, x8, x9, x10, x11, .int .i64 o.kd, .int .u32 o.cl, .int .u32 o.ck, .int .u32 o.st, .int .u64 o.rf, .int .i32 o.ch, x18, .int .i64 at', .int .i32 ch, x21, x22] 85)) w.heap.size 85 23 (opX 5 n o at' ch x2 x3 x4 x5 x6 x7 x8 x9 x10 x11 x18 x21 x22)) := RowIs.last rfl (opX_row 5 n o at' ch x2 x3 x4 x5 x6 x7 x8 x9 x10 x11 x18 x21 x22)
 have c72 := (HW.out.below HB0.out).ok.row.cell (j := 72) (by omega)
 simp only [wcell] at c72
 have hlen : ((ps.length : Int) == 0) = false := by simp only [beq_eq_false_iff_ne]; omega
 clear HH
 go_enter Tryz.func43, Tryz.ntmps43
 go_wp2_with fail
 refine wp_region_held_drew (S := fun W => Below w.heap.size w W ∧ RowIs W w.heap.size 85 23 (opX 5 n o at' ch x2 x3 x4 x5 x6 x7 x8 x9 x10 x11 x18 x21 x22)) (by kernel_rfl) ⟨HB0.out.trans ((Below.refl _ _).drew.mono HB0.out.size), HX0.out.drew⟩ (fun hHeld => ?_)
 clear HB0 HX0 c72
 generalize World.drew _ = wD at hHeld ⊢
 refine wFp (fun _ h => aI ((HW.out.below h.1).ok.row.cell (j := 72) (by omega)) (h.2.cell (j := 1) (by omega))) fun t1 => ?_
 refine tkx 0 44 t1 ?_
 refine tkx 1 45 t1 ?_
 refine tkx 2 46 t1 ?_
 refine tkx 3 47 t1 ?_
 refine tkx 4 48 t1 ?_
 refine tkx 5 49 t1 ?_
 refine tkx 6 50 t1 ?_
 refine tkx 7 51 t1 ?_
 refine tkx 8 52 t1 ?_
 refine tkx 9 53 t1 ?_
 refine tkx 10 54 t1 ?_
 refine rd 11 (some 55) rfl (fun K hK => ?_)
 go_simp
 refine (pick_any n ps.length hpl HW.out.len hnb.1 hnb.2 _).mono ?_
 rintro e w4 ⟨⟨i, hi, rfl⟩, hw4⟩
 obtain rfl := hw4.symm
 refine hK.out _ _ hHeld fun hHeld => ?_
 have HPc := hid2 (HPs.out i hi)
 have li : (i : Int) < (ps.length : Int) := by omega
 clear hK K
 refine wFp (fun W h => aI ((HW.out.below h.1).ok.row.cell (j := 72) (by omega)) (aI (h.2.cell (j := 1) (by omega)) (HPc.out W h.1))) fun t2 => ?_
 refine tkx 12 56 t2 ?_
 refine tkx 13 57 t2 ?_
 refine rdg 14 (some 5) ?_
 refine wdn ?_
 obtain ⟨xb, rb, cl, ss, top, vW, vK, t, ws, vL, vR, p, hG⟩ := HW.out.ply i hi
 have HP := hid2 p
 have HG := hid2 hG
 have hbx := p.book.row.lt
 have hbr := p.ref.row.lt
 have HVW : Hid (∀ x, vW.ownBlock = some x → x < w.heap.size) := fun x hx => (World.ownsRow.lt p.book.own x hx).2
 clear p hG HPs HPc
 have b0 := hHeld.2.cell (j := 0) (by omega)
 simp only [opX] at b0
 have HD := hid2 (hHeld.1.trans ((Below.refl _ _).drew.mono hHeld.1.size))
 have HX := hid2 hHeld.2.drew
 go_wp2_with fail
 clear b0 hHeld
 refine wp_region_held_drew (S := fun W => RowIs W w.heap.size 85 23 (opX 5 n o at' ch x2 x3 x4 x5 x6 x7 x8 x9 x10 x11 x18 x21 x22) ∧ RowIs W ps[i] 150 2 (pl2 xb rb)) (by kernel_rfl) ⟨HX.out, HP.out.row.below HD.out HP.out.row.lt⟩ (fun hHeld => ?_)
 generalize World.drew _ = wE at HD HX hHeld ⊢
 generalize hMM : insN cl t.list ws at' ch = M
 have HM := hid2 hMM
 have HOK : Hid (BookOk M.2.2.1 M.2.2.2) := by rw [← hMM]; exact insN_ok HP.out.ok HP.out.cl'
 clear hMM
 have HVL : Hid (∀ x, vL.ownBlock = some x → x < w.heap.size) := fun x hx => (World.ownsRow.lt HP.out.ref.hL x hx).2
 have HVR : Hid (∀ x, vR.ownBlock = some x → x < w.heap.size) := fun x hx => (World.ownsRow.lt HP.out.ref.hW x hx).2
 have HI : Hid (∀ W, Below w.heap.size w W → Calls Tryz.prog 45 #[.pointer (some ⟨xb, 0, none⟩), .int .i64 at', .int .i32 ch] W fun e w' => e = .returned (.tuple #[.agg #[.int .i64 M.1.kd, .int .u32 M.1.cl, .int .u32 M.1.ck, .int .u32 M.1.st, .int .u64 M.1.rf, .int .i32 M.1.ch], .int .i64 M.2.1]) ∧ ∃ R : Tr × List Opn, TakeP xb 0 cl ss vK vW R W w' ∧ R.1.list = M.2.2.1 ∧ R.2 = M.2.2.2) := fun W hW => (rIns_any xb cl ss top vW vK t ws at' ch W (HP.out.book.below hW) HP.out.ok.by' HP.out.cl' HP.out.ok.set.tellable).mono fun e w' h => by
  obtain ⟨L, hL, o2, n2, R, hR, rfl, hT⟩ := h
  obtain rfl := TextL.vis HP.out.ok.set.by' hL
  have hl := insM_list (at' := at') (ch := ch) HP.out.ok HP.out.cl'
  rw [hR, HM.out] at hl
  obtain ⟨l1, l2, l3, l4⟩ := hl
  exact ⟨by rw [← l1, ← l2], R, hT, l3, l4⟩
 have HNX : Hid (∀ x, w.heap.size ≤ x → ¬ (x = xb ∨ vW.ownBlock = some x)) := fun x hx e => by
  rcases e with e | e
  ·omega
  ·have := HVW.out x e; omega
 have HNP : Hid (¬ (ps[i] = xb ∨ vW.ownBlock = some ps[i])) := fun e => by
  rcases e with e | e
  ·exact absurd (RowIs.type_eq HP.out.row (e ▸ HP.out.book.row)) (by decide)
  ·exact ref_apart HP.out.row HP.out.book.own (by decide) e rfl
 refine wFp (fun _ h => aI (h.2.cell (j := 0) (by omega)) (aI (h.2.cell (j := 1) (by omega)) (aI (h.1.cell (j := 19) (by omega)) (h.1.cell (j := 20) (by omega))))) fun t1 => ?_
 refine tkx 0 63 t1 ?_
 refine tkx 1 64 t1 ?_
 refine tkx 2 65 t1 ?_
 refine tkx 3 66 t1 ?_
 refine tkx 4 67 t1 ?_
 refine tkx 5 68 t1 ?_
 refine tkx 6 69 t1 ?_
 refine tkx 7 70 t1 ?_
 refine rd2 8 (some 71) 12 (some 6) rfl rfl (fun K hK => ?_) (fun K hK => ?_)
 ·go_simp
  refine (HI.out _ HD.out).mono ?_
  rintro e w1 ⟨rfl, hT1⟩
  have HT1 : Hid (∃ R : Tr × List Opn, TakeP xb 0 cl ss vK vW R w w1 ∧ R.1.list = M.2.2.1 ∧ R.2 = M.2.2.2) := hT1.via fun R h => ⟨h.1.of HD.out, h.2⟩
  obtain ⟨_, hq1, -⟩ := hT1
  have hbt := hq1.add.but
  clear hq1
  have R1 := hHeld.1.but hbt (HNX.out _ (Nat.le_refl _))
  have P1 := hHeld.2.but hbt (HNP.out)
  refine hK.out _ _ ⟨R1, P1⟩ (fun hHeld => ?_)
  clear hK K hbt R1 P1
  refine tkx 9 62 t1 ?_
  refine tkx 10 72 t1 ?_
  refine tkx 11 73 t1 ?_
  refine rd 12 (some 6) rfl (fun K hK => ?_)
  go_simp
  have RA : RowIs (w1.alloc (.cells #[.int .i64 0, .int .u32 0, .int .u32 0, .int .u32 0, .int .u64 0, .int .i32 0] 43)) w1.heap.size 43 6 (opV o0) := RowIs.last (n := 6) (f := opV o0) (cs := #[.int .i64 0, .int .u32 0, .int .u32 0, .int .u32 0, .int .u64 0, .int .i32 0]) rfl rfl
  have HT2 : Hid (∃ R : Tr × List Opn, TakeP xb 0 cl ss vK vW R w (w1.alloc (.cells #[.int .i64 0, .int .u32 0, .int .u32 0, .int .u32 0, .int .u64 0, .int .i32 0] 43)) ∧ R.1.list = M.2.2.1 ∧ R.2 = M.2.2.2) := HT1.out.via fun R h => ⟨h.1.grow (below1' w1 (.cells #[.int .i64 0, .int .u32 0, .int .u32 0, .int .u32 0, .int .u64 0, .int .i32 0] 43)), h.2⟩
  refine hK.out _ _ ⟨hHeld.1.alloc _, hHeld.2.alloc _⟩ (fun hHeld => ?_)
  clear hK K
  refine rd 13 none rfl (fun K hK => ?_)
  rw [if_pos (by rfl)]
  refine wp_store_row 43 (.tmp 6) (.tmp 72) rfl w1.heap.size (rowOf 6 (opV M.1)) rfl rfl _ _ RA (by rw [rowOf_size]; exact infoOp6) (by rw [rowOf_size, rowOf_size]) (opV_one _) ?_
  have hge : w.heap.size ≤ w1.heap.size := HT2.out.elim fun R h => (by have := h.1.add.but.size; have := hHeld.1.lt; simp at this ⊢; omega)
  have RB := RA.setRow (opV M.1)
  have HT3 : Hid (∃ R : Tr × List Opn, TakeP xb 0 cl ss vK vW R w ((w1.alloc (.cells #[.int .i64 0, .int .u32 0, .int .u32 0, .int .u32 0, .int .u64 0, .int .i32 0] 43)).setRow w1.heap.size (rowOf 6 (opV M.1))) ∧ R.1.list = M.2.2.1 ∧ R.2 = M.2.2.2) := HT2.out.via fun R h => ⟨h.1.putRow RA hge hbx HVW.out (rowOf 6 (opV M.1)), h.2⟩
  refine hK.out _ _ ⟨hHeld.1.setRowOther (fun e => absurd (RowIs.type_eq hHeld.1 ((show w1.heap.size = w.heap.size from e) ▸ RA)) (by decide)) _, hHeld.2.setRowOther (fun e => absurd (RowIs.type_eq hHeld.2 ((show w1.heap.size = ps[i] from e) ▸ RA)) (by decide)) _⟩ (fun hHeld => ?_)
  clear hK K RA
  refine rdg 14 (some 7) ?_
  refine wdn ?_
  have HHD := hid2 hHeld
  have HRB := hid2 RB
  have HGE := hid2 hge
  clear hHeld RB hge
  obtain ⟨y, hy⟩ : ∃ y, w1.heap.size = y := ⟨_, rfl⟩
  rw [hy] at HHD HRB HGE HT3 ⊢
  generalize World.setRow _ _ _ = w2 at HHD HRB HT3 ⊢
  go_wp2_with fail
  have HYL := hid2 HRB.out.lt
  have HS2 : Hid (w.heap.size ≤ w2.heap.size) := HT3.out.elim fun R h => h.1.add.but.size
  have HF := hid2 ((Below.refl w2.heap.size w2).drew)
  have HHE : Hid ((RowIs w2.drew w.heap.size 85 23 (opX 5 n o at' ch x2 x3 x4 x5 x6 x7 x8 x9 x10 x11 x18 x21 x22) ∧ RowIs w2.drew ps[i] 150 2 (pl2 xb rb) ∧ RowIs w2.drew y 43 6 (opV M.1))) := ⟨HHD.out.1.drew, HHD.out.2.drew, HRB.out.drew⟩
  refine wp_region_held_drew (S := fun W => RowIs W w.heap.size 85 23 (opX 5 n o at' ch x2 x3 x4 x5 x6 x7 x8 x9 x10 x11 x18 x21 x22) ∧ RowIs W ps[i] 150 2 (pl2 xb rb) ∧ RowIs W y 43 6 (opV M.1)) (by kernel_rfl) HHE.out (fun hHeld => ?_)
  generalize w2.drew = wF at HF HHE hHeld ⊢
  have HJ : Hid (∀ W, Below w2.heap.size w2 W → Calls Tryz.prog 78 #[.pointer (some ⟨rb, 0, none⟩), .int .i64 at', .int .i32 ch] W fun e w' => RefW rb cl 0 false (.slice none 0 0) vL vR M W e w') := fun W hW => by
   obtain ⟨R, hT, -⟩ := HT3.out
   have h := refIns_any rb cl vL vR 0 false (.slice none 0 0) t.list ws at' ch W ((HP.out.refX (Below.refl _ _) hT.add.but).below hW) HP.out.ok HP.out.cl' hat.2
   rwa [HM.out] at h
  have HNR : Hid (¬ ps[i] = rb) := fun e => absurd (RowIs.type_eq HP.out.row (e ▸ HP.out.ref.row)) (by decide)
  have hyr : rb < y := by have := HGE.out; omega
  refine wFp (fun _ h => aI (h.2.1.cell (j := 0) (by omega)) (aI (h.2.1.cell (j := 1) (by omega)) (aI (h.1.cell (j := 19) (by omega)) (h.1.cell (j := 20) (by omega))))) fun t2 => ?_
  refine tkx 0 75 t2 ?_
  refine tkx 1 76 t2 ?_
  refine tkx 2 77 t2 ?_
  refine tkx 3 78 t2 ?_
  refine tkx 4 79 t2 ?_
  refine tkx 5 80 t2 ?_
  refine tkx 6 81 t2 ?_
  refine tkx 7 82 t2 ?_
  refine rd2 8 (some 83) 12 (some 8) rfl rfl (fun K hK => ?_) (fun K hK => ?_)
  ·go_simp
   refine (HJ.out _ HF.out).mono ?_
   rintro e w4 ⟨rfl, hR4⟩
   have hbt : But (fun x => x = rb) wF w4 := (by obtain ⟨_, _, _, _, _, k⟩ := hR4; exact k)
   have HQ3 := hid2 (RefP.of HF.out hR4)
   have R1 := hHeld.1.but hbt (fun e => (by have : w.heap.size = rb := e; omega))
   have P1 := hHeld.2.1.but hbt HNR.out
   have Y1 := hHeld.2.2.but hbt (fun e => (by have : y = rb := e; omega))
   refine hK.out _ _ ⟨R1, P1, Y1⟩ (fun hHeld => ?_)
   clear hK K hbt R1 P1 Y1 hR4
   refine tkx 9 74 t2 ?_
   refine tkx 10 84 t2 ?_
   refine tkx 11 85 t2 ?_
   refine rd 12 (some 8) rfl (fun K hK => ?_)
   go_simp
   have RC : RowIs (w4.alloc (.cells #[.int .i64 0, .int .u32 0, .int .u32 0, .int .u32 0, .int .u64 0, .int .i32 0] 43)) w4.heap.size 43 6 (opV o0) := RowIs.last (n := 6) (f := opV o0) (cs := #[.int .i64 0, .int .u32 0, .int .u32 0, .int .u32 0, .int .u64 0, .int .i32 0]) rfl rfl
   have HQ4 := hid2 (RefP.below HQ3.out (below1' w4 (.cells #[.int .i64 0, .int .u32 0, .int .u32 0, .int .u32 0, .int .u64 0, .int .i32 0] 43)))
   refine hK.out _ _ ⟨hHeld.1.alloc _, hHeld.2.1.alloc _, hHeld.2.2.alloc _⟩ (fun hHeld => ?_)
   clear hK K
   refine rd 13 none rfl (fun K hK => ?_)
   rw [if_pos (by rfl)]
   refine wp_store_row 43 (.tmp 8) (.tmp 84) rfl w4.heap.size (rowOf 6 (opV M.1)) rfl rfl _ _ RC (by rw [rowOf_size]; exact infoOp6) (by rw [rowOf_size, rowOf_size]) (opV_one _) ?_
   have hzy : w4.heap.size ≠ y := fun e => (by have h1 := HYL.out; have h2 := HF.out.size; have h3 := HQ3.out; obtain ⟨_, _, _, _, _, k⟩ := h3; have := k.size; omega)
   have RD := RC.setRow (opV M.1)
   have HQ5 := hid2 (RefP.below HQ3.out (below_setRow' (below1' w4 (.cells #[.int .i64 0, .int .u32 0, .int .u32 0, .int .u32 0, .int .u64 0, .int .i32 0] 43)) (Nat.le_refl _) (rowOf 6 (opV M.1))))
   refine hK.out _ _ ⟨hHeld.1.setRowOther (fun e => absurd (RowIs.type_eq hHeld.1 ((show w4.heap.size = w.heap.size from e) ▸ RC)) (by decide)) _, hHeld.2.1.setRowOther (fun e => absurd (RowIs.type_eq hHeld.2.1 ((show w4.heap.size = ps[i] from e) ▸ RC)) (by decide)) _, hHeld.2.2.setRowOther hzy _⟩ (fun hHeld => ?_)
   clear hK K RC
   refine rdg 14 (some 9) ?_
   refine wdn ?_
   obtain ⟨y0, y1, y2, y3, y4, y5⟩ := boxCells hHeld.2.2
   obtain ⟨z0, z1, z2, z3, z4, z5⟩ := boxCells RD
   have HE2 := hid2 HQ5.out
   clear hHeld RD
   go_wp2_with fail
   go_ret
   obtain ⟨R, hT, e1, e2⟩ := HT3.out
   exact ⟨by simp, HW.out.move hi (HP.out.write HG.out (Below.refl _ _) hT.add (Below.refl _ _) HE2.out (by rw [e1]) (by rw [e2]) HOK.out)⟩
  ·go_simp
   have RC : RowIs (wF.alloc (.cells #[.int .i64 0, .int .u32 0, .int .u32 0, .int .u32 0, .int .u64 0, .int .i32 0] 43)) wF.heap.size 43 6 (opV o0) := RowIs.last (n := 6) (f := opV o0) (cs := #[.int .i64 0, .int .u32 0, .int .u32 0, .int .u32 0, .int .u64 0, .int .i32 0]) rfl rfl
   refine hK.out _ _ ⟨hHeld.1.alloc _, hHeld.2.1.alloc _, hHeld.2.2.alloc _⟩ (fun hHeld => ?_)
   clear hK K
   refine rd 8 (some 83) rfl (fun K hK => ?_)
   go_simp
   refine (HJ.out _ (HF.out.trans ((below1' _ _).mono HF.out.size))).mono ?_
   rintro e w4 ⟨rfl, hR4⟩
   have hbt : But (fun x => x = rb) (wF.alloc (.cells #[.int .i64 0, .int .u32 0, .int .u32 0, .int .u32 0, .int .u64 0, .int .i32 0] 43)) w4 := (by obtain ⟨_, _, _, _, _, k⟩ := hR4; exact k)
   have HQ3 := hid2 (RefP.of (HF.out.trans ((below1' _ _).mono HF.out.size)) hR4)
   have HR4 := hid2 hR4
   have RC := RC.but hbt (fun e => (by have : wF.heap.size = rb := e; have := HF.out.size; have := HS2.out; omega))
   have R1 := hHeld.1.but hbt (fun e => (by have : w.heap.size = rb := e; omega))
   have P1 := hHeld.2.1.but hbt HNR.out
   have Y1 := hHeld.2.2.but hbt (fun e => (by have : y = rb := e; omega))
   refine hK.out _ _ ⟨R1, P1, Y1⟩ (fun hHeld => ?_)
   clear hK K hbt R1 P1 Y1 hR4
   refine tkx 9 74 t2 ?_
   refine tkx 10 84 t2 ?_
   refine tkx 11 85 t2 ?_
   refine rd 13 none rfl (fun K hK => ?_)
   rw [if_pos (by rfl)]
   refine wp_store_row 43 (.tmp 8) (.tmp 84) rfl wF.heap.size (rowOf 6 (opV M.1)) rfl rfl _ _ RC (by rw [rowOf_size]; exact infoOp6) (by rw [rowOf_size, rowOf_size]) (opV_one _) ?_
   have hzy : wF.heap.size ≠ y := fun e => (by have h1 := HYL.out; have h2 := HF.out.size; omega)
   have RD := RC.setRow (opV M.1)
   have HQ5 := hid2 (RefP.put (HF.out.trans ((below1' _ _).mono HF.out.size)) HR4.out RC HF.out.size (by simp) (fun x e => Nat.lt_of_lt_of_le (HVL.out x e) HS2.out) (fun x e => Nat.lt_of_lt_of_le (HVR.out x e) HS2.out) (rowOf 6 (opV M.1)))
   refine hK.out _ _ ⟨hHeld.1.setRowOther (fun e => absurd (RowIs.type_eq hHeld.1 ((show wF.heap.size = w.heap.size from e) ▸ RC)) (by decide)) _, hHeld.2.1.setRowOther (fun e => absurd (RowIs.type_eq hHeld.2.1 ((show wF.heap.size = ps[i] from e) ▸ RC)) (by decide)) _, hHeld.2.2.setRowOther hzy _⟩ (fun hHeld => ?_)
   clear hK K RC
   refine rdg 14 (some 9) ?_
   refine wdn ?_
   obtain ⟨y0, y1, y2, y3, y4, y5⟩ := boxCells hHeld.2.2
   obtain ⟨z0, z1, z2, z3, z4, z5⟩ := boxCells RD
   have HE2 := hid2 HQ5.out
   clear hHeld RD
   go_wp2_with fail
   go_ret
   obtain ⟨R, hT, e1, e2⟩ := HT3.out
   exact ⟨by simp, HW.out.move hi (HP.out.write HG.out (Below.refl _ _) hT.add (Below.refl _ _) HE2.out (by rw [e1]) (by rw [e2]) HOK.out)⟩
 ·go_simp
  have RA : RowIs (wE.alloc (.cells #[.int .i64 0, .int .u32 0, .int .u32 0, .int .u32 0, .int .u64 0, .int .i32 0] 43)) wE.heap.size 43 6 (opV o0) := RowIs.last (n := 6) (f := opV o0) (cs := #[.int .i64 0, .int .u32 0, .int .u32 0, .int .u32 0, .int .u64 0, .int .i32 0]) rfl rfl
  refine hK.out _ _ ⟨hHeld.1.alloc _, hHeld.2.alloc _⟩ (fun hHeld => ?_)
  clear hK K
  refine rd 8 (some 71) rfl (fun K hK => ?_)
  go_simp
  refine (HI.out _ (HD.out.trans ((below1' _ _).mono HD.out.size))).mono ?_
  rintro e w1 ⟨rfl, hT1⟩
  have HT1 : Hid (∃ R : Tr × List Opn, TakeP xb 0 cl ss vK vW R w w1 ∧ R.1.list = M.2.2.1 ∧ R.2 = M.2.2.2) := hT1.via fun R h => ⟨h.1.of (HD.out.trans ((below1' _ _).mono HD.out.size)), h.2⟩
  obtain ⟨_, hq1, -⟩ := hT1
  have hbt := hq1.add.but
  clear hq1
  have RA := RA.but hbt (HNX.out _ HD.out.size)
  have HT2 := HT1
  have R1 := hHeld.1.but hbt (HNX.out _ (Nat.le_refl _))
  have P1 := hHeld.2.but hbt (HNP.out)
  refine hK.out _ _ ⟨R1, P1⟩ (fun hHeld => ?_)
  clear hK K hbt R1 P1
  refine tkx 9 62 t1 ?_
  refine tkx 10 72 t1 ?_
  refine tkx 11 73 t1 ?_
  refine rd 13 none rfl (fun K hK => ?_)
  rw [if_pos (by rfl)]
  refine wp_store_row 43 (.tmp 6) (.tmp 72) rfl wE.heap.size (rowOf 6 (opV M.1)) rfl rfl _ _ RA (by rw [rowOf_size]; exact infoOp6) (by rw [rowOf_size, rowOf_size]) (opV_one _) ?_
  have hge : w.heap.size ≤ wE.heap.size := HT2.out.elim fun R h => (by have := h.1.add.but.size; have := hHeld.1.lt; exact HD.out.size)
  have RB := RA.setRow (opV M.1)
  have HT3 : Hid (∃ R : Tr × List Opn, TakeP xb 0 cl ss vK vW R w (w1.setRow wE.heap.size (rowOf 6 (opV M.1))) ∧ R.1.list = M.2.2.1 ∧ R.2 = M.2.2.2) := HT2.out.via fun R h => ⟨h.1.putRow RA hge hbx HVW.out (rowOf 6 (opV M.1)), h.2⟩
  refine hK.out _ _ ⟨hHeld.1.setRowOther (fun e => absurd (RowIs.type_eq hHeld.1 ((show wE.heap.size = w.heap.size from e) ▸ RA)) (by decide)) _, hHeld.2.setRowOther (fun e => absurd (RowIs.type_eq hHeld.2 ((show wE.heap.size = ps[i] from e) ▸ RA)) (by decide)) _⟩ (fun hHeld => ?_)
  clear hK K RA
  refine rdg 14 (some 7) ?_
  refine wdn ?_
  have HHD := hid2 hHeld
  have HRB := hid2 RB
  have HGE := hid2 hge
  clear hHeld RB hge
  obtain ⟨y, hy⟩ : ∃ y, wE.heap.size = y := ⟨_, rfl⟩
  rw [hy] at HHD HRB HGE HT3 ⊢
  generalize World.setRow _ _ _ = w2 at HHD HRB HT3 ⊢
  go_wp2_with fail
  have HYL := hid2 HRB.out.lt
  have HS2 : Hid (w.heap.size ≤ w2.heap.size) := HT3.out.elim fun R h => h.1.add.but.size
  have HF := hid2 ((Below.refl w2.heap.size w2).drew)
  have HHE : Hid ((RowIs w2.drew w.heap.size 85 23 (opX 5 n o at' ch x2 x3 x4 x5 x6 x7 x8 x9 x10 x11 x18 x21 x22) ∧ RowIs w2.drew ps[i] 150 2 (pl2 xb rb) ∧ RowIs w2.drew y 43 6 (opV M.1))) := ⟨HHD.out.1.drew, HHD.out.2.drew, HRB.out.drew⟩
  refine wp_region_held_drew (S := fun W => RowIs W w.heap.size 85 23 (opX 5 n o at' ch x2 x3 x4 x5 x6 x7 x8 x9 x10 x11 x18 x21 x22) ∧ RowIs W ps[i] 150 2 (pl2 xb rb) ∧ RowIs W y 43 6 (opV M.1)) (by kernel_rfl) HHE.out (fun hHeld => ?_)
  generalize w2.drew = wF at HF HHE hHeld ⊢
  have HJ : Hid (∀ W, Below w2.heap.size w2 W → Calls Tryz.prog 78 #[.pointer (some ⟨rb, 0, none⟩), .int .i64 at', .int .i32 ch] W fun e w' => RefW rb cl 0 false (.slice none 0 0) vL vR M W e w') := fun W hW => by
   obtain ⟨R, hT, -⟩ := HT3.out
   have h := refIns_any rb cl vL vR 0 false (.slice none 0 0) t.list ws at' ch W ((HP.out.refX (Below.refl _ _) hT.add.but).below hW) HP.out.ok HP.out.cl' hat.2
   rwa [HM.out] at h
  have HNR : Hid (¬ ps[i] = rb) := fun e => absurd (RowIs.type_eq HP.out.row (e ▸ HP.out.ref.row)) (by decide)
  have hyr : rb < y := by have := HGE.out; omega
  refine wFp (fun _ h => aI (h.2.1.cell (j := 0) (by omega)) (aI (h.2.1.cell (j := 1) (by omega)) (aI (h.1.cell (j := 19) (by omega)) (h.1.cell (j := 20) (by omega))))) fun t2 => ?_
  refine tkx 0 75 t2 ?_
  refine tkx 1 76 t2 ?_
  refine tkx 2 77 t2 ?_
  refine tkx 3 78 t2 ?_
  refine tkx 4 79 t2 ?_
  refine tkx 5 80 t2 ?_
  refine tkx 6 81 t2 ?_
  refine tkx 7 82 t2 ?_
  refine rd2 8 (some 83) 12 (some 8) rfl rfl (fun K hK => ?_) (fun K hK => ?_)
  ·go_simp
   refine (HJ.out _ HF.out).mono ?_
   rintro e w4 ⟨rfl, hR4⟩
   have hbt : But (fun x => x = rb) wF w4 := (by obtain ⟨_, _, _, _, _, k⟩ := hR4; exact k)
   have HQ3 := hid2 (RefP.of HF.out hR4)
   have R1 := hHeld.1.but hbt (fun e => (by have : w.heap.size = rb := e; omega))
   have P1 := hHeld.2.1.but hbt HNR.out
   have Y1 := hHeld.2.2.but hbt (fun e => (by have : y = rb := e; omega))
   refine hK.out _ _ ⟨R1, P1, Y1⟩ (fun hHeld => ?_)
   clear hK K hbt R1 P1 Y1 hR4
   refine tkx 9 74 t2 ?_
   refine tkx 10 84 t2 ?_
   refine tkx 11 85 t2 ?_
   refine rd 12 (some 8) rfl (fun K hK => ?_)
   go_simp
   have RC : RowIs (w4.alloc (.cells #[.int .i64 0, .int .u32 0, .int .u32 0, .int .u32 0, .int .u64 0, .int .i32 0] 43)) w4.heap.size 43 6 (opV o0) := RowIs.last (n := 6) (f := opV o0) (cs := #[.int .i64 0, .int .u32 0, .int .u32 0, .int .u32 0, .int .u64 0, .int .i32 0]) rfl rfl
   have HQ4 := hid2 (RefP.below HQ3.out (below1' w4 (.cells #[.int .i64 0, .int .u32 0, .int .u32 0, .int .u32 0, .int .u64 0, .int .i32 0] 43)))
   refine hK.out _ _ ⟨hHeld.1.alloc _, hHeld.2.1.alloc _, hHeld.2.2.alloc _⟩ (fun hHeld => ?_)
   clear hK K
   refine rd 13 none rfl (fun K hK => ?_)
   rw [if_pos (by rfl)]
   refine wp_store_row 43 (.tmp 8) (.tmp 84) rfl w4.heap.size (rowOf 6 (opV M.1)) rfl rfl _ _ RC (by rw [rowOf_size]; exact infoOp6) (by rw [rowOf_size, rowOf_size]) (opV_one _) ?_
   have hzy : w4.heap.size ≠ y := fun e => (by have h1 := HYL.out; have h2 := HF.out.size; have h3 := HQ3.out; obtain ⟨_, _, _, _, _, k⟩ := h3; have := k.size; omega)
   have RD := RC.setRow (opV M.1)
   have HQ5 := hid2 (RefP.below HQ3.out (below_setRow' (below1' w4 (.cells #[.int .i64 0, .int .u32 0, .int .u32 0, .int .u32 0, .int .u64 0, .int .i32 0] 43)) (Nat.le_refl _) (rowOf 6 (opV M.1))))
   refine hK.out _ _ ⟨hHeld.1.setRowOther (fun e => absurd (RowIs.type_eq hHeld.1 ((show w4.heap.size = w.heap.size from e) ▸ RC)) (by decide)) _, hHeld.2.1.setRowOther (fun e => absurd (RowIs.type_eq hHeld.2.1 ((show w4.heap.size = ps[i] from e) ▸ RC)) (by decide)) _, hHeld.2.2.setRowOther hzy _⟩ (fun hHeld => ?_)
   clear hK K RC
   refine rdg 14 (some 9) ?_
   refine wdn ?_
   obtain ⟨y0, y1, y2, y3, y4, y5⟩ := boxCells hHeld.2.2
   obtain ⟨z0, z1, z2, z3, z4, z5⟩ := boxCells RD
   have HE2 := hid2 HQ5.out
   clear hHeld RD
   go_wp2_with fail
   go_ret
   obtain ⟨R, hT, e1, e2⟩ := HT3.out
   exact ⟨by simp, HW.out.move hi (HP.out.write HG.out (Below.refl _ _) hT.add (Below.refl _ _) HE2.out (by rw [e1]) (by rw [e2]) HOK.out)⟩
  ·go_simp
   have RC : RowIs (wF.alloc (.cells #[.int .i64 0, .int .u32 0, .int .u32 0, .int .u32 0, .int .u64 0, .int .i32 0] 43)) wF.heap.size 43 6 (opV o0) := RowIs.last (n := 6) (f := opV o0) (cs := #[.int .i64 0, .int .u32 0, .int .u32 0, .int .u32 0, .int .u64 0, .int .i32 0]) rfl rfl
   refine hK.out _ _ ⟨hHeld.1.alloc _, hHeld.2.1.alloc _, hHeld.2.2.alloc _⟩ (fun hHeld => ?_)
   clear hK K
   refine rd 8 (some 83) rfl (fun K hK => ?_)
   go_simp
   refine (HJ.out _ (HF.out.trans ((below1' _ _).mono HF.out.size))).mono ?_
   rintro e w4 ⟨rfl, hR4⟩
   have hbt : But (fun x => x = rb) (wF.alloc (.cells #[.int .i64 0, .int .u32 0, .int .u32 0, .int .u32 0, .int .u64 0, .int .i32 0] 43)) w4 := (by obtain ⟨_, _, _, _, _, k⟩ := hR4; exact k)
   have HQ3 := hid2 (RefP.of (HF.out.trans ((below1' _ _).mono HF.out.size)) hR4)
   have HR4 := hid2 hR4
   have RC := RC.but hbt (fun e => (by have : wF.heap.size = rb := e; have := HF.out.size; have := HS2.out; omega))
   have R1 := hHeld.1.but hbt (fun e => (by have : w.heap.size = rb := e; omega))
   have P1 := hHeld.2.1.but hbt HNR.out
   have Y1 := hHeld.2.2.but hbt (fun e => (by have : y = rb := e; omega))
   refine hK.out _ _ ⟨R1, P1, Y1⟩ (fun hHeld => ?_)
   clear hK K hbt R1 P1 Y1 hR4
   refine tkx 9 74 t2 ?_
   refine tkx 10 84 t2 ?_
   refine tkx 11 85 t2 ?_
   refine rd 13 none rfl (fun K hK => ?_)
   rw [if_pos (by rfl)]
   refine wp_store_row 43 (.tmp 8) (.tmp 84) rfl wF.heap.size (rowOf 6 (opV M.1)) rfl rfl _ _ RC (by rw [rowOf_size]; exact infoOp6) (by rw [rowOf_size, rowOf_size]) (opV_one _) ?_
   have hzy : wF.heap.size ≠ y := fun e => (by have h1 := HYL.out; have h2 := HF.out.size; omega)
   have RD := RC.setRow (opV M.1)
   have HQ5 := hid2 (RefP.put (HF.out.trans ((below1' _ _).mono HF.out.size)) HR4.out RC HF.out.size (by simp) (fun x e => Nat.lt_of_lt_of_le (HVL.out x e) HS2.out) (fun x e => Nat.lt_of_lt_of_le (HVR.out x e) HS2.out) (rowOf 6 (opV M.1)))
   refine hK.out _ _ ⟨hHeld.1.setRowOther (fun e => absurd (RowIs.type_eq hHeld.1 ((show wF.heap.size = w.heap.size from e) ▸ RC)) (by decide)) _, hHeld.2.1.setRowOther (fun e => absurd (RowIs.type_eq hHeld.2.1 ((show wF.heap.size = ps[i] from e) ▸ RC)) (by decide)) _, hHeld.2.2.setRowOther hzy _⟩ (fun hHeld => ?_)
   clear hK K RC
   refine rdg 14 (some 9) ?_
   refine wdn ?_
   obtain ⟨y0, y1, y2, y3, y4, y5⟩ := boxCells hHeld.2.2
   obtain ⟨z0, z1, z2, z3, z4, z5⟩ := boxCells RD
   have HE2 := hid2 HQ5.out
   clear hHeld RD
   go_wp2_with fail
   go_ret
   obtain ⟨R, hT, e1, e2⟩ := HT3.out
   exact ⟨by simp, HW.out.move hi (HP.out.write HG.out (Below.refl _ _) hT.add (Below.refl _ _) HE2.out (by rw [e1]) (by rw [e2]) HOK.out)⟩
end Go.Proofs.YtgccjefbedpmpaaGreatDoor

import Derived.Test.YtgccjefbedpmpaaGreatDoorGWPack
import Derived.Test.YtgccjefbedpmpaaGreatDoorGRefRd
import Derived.Test.YtgccjefbedpmpaaGreatDoorZCodS
import Derived.Test.YtgccjefbedpmpaaGreatDoorZRIsF
import Derived.Test.YtgccjefbedpmpaaGreatDoorZPack
import Derived.Test.YtgccjefbedpmpaaGreatDoorZBytsD
import Derived.Deep.DeepCutAuto
namespace Go.Proofs.YtgccjefbedpmpaaGreatDoor
open Go.RowKit
theorem opL_T (s : ByteArray) (a : Nat) (b : Bool) (ha : a ≤ s.size) : OpT (opL s a b).op ∧ (opL s a b).at_ ≤ s.size := by
  obtain ⟨k0, k1⟩ := byAt_r s a
  have h0 := next_r s a ha
  obtain ⟨p1, p2, p3⟩ := fewL_r s (nextAt s a) (b || decide (s.size ≤ a)) h0
  obtain ⟨q1, q2, q3⟩ := fewL_r s _ (fewL s (nextAt s a) (b || decide (s.size ≤ a))).2.2 p3
  obtain ⟨r1, r2, r3⟩ := fewL_r s _ (fewL s _ (fewL s (nextAt s a) (b || decide (s.size ≤ a))).2.2).2.2 q3
  obtain ⟨n1, n2, n3⟩ := numL_r s 8 0 _ (fewL s _ (fewL s _ (fewL s (nextAt s a) (b || decide (s.size ≤ a))).2.2).2.2).2.2 0 (by omega) (by decide) (by omega) r3
  obtain ⟨c1, c2, c3⟩ := fewL_r s _ (numL s 8 0 _ (fewL s _ (fewL s _ (fewL s (nextAt s a) (b || decide (s.size ≤ a))).2.2).2.2).2.2 0).2.2 n3
  unfold opL OpR.op
  dsimp only
  split
  · exact ⟨⟨by dsimp only; omega, ⟨p1, p2⟩, ⟨q1, q2⟩, ⟨r1, r2⟩, ⟨n1, by dsimp only; omega⟩, by dsimp only; omega⟩, c3⟩
  · exact ⟨⟨by dsimp only; omega, ⟨p1, p2⟩, ⟨q1, q2⟩, ⟨r1, r2⟩, ⟨n1, by dsimp only; omega⟩, by dsimp only; omega⟩, n3⟩
theorem opsL_T (s : ByteArray) : ∀ (n a : Nat) (b : Bool), a ≤ s.size → (∀ o ∈ (opsL s n a b).1, OpT o) ∧ (opsL s n a b).1.length ≤ n := by
  intro n
  induction n with
  | zero => intro a b _; exact ⟨fun o h => by simp [opsL] at h, by simp [opsL]⟩
  | succ n ih =>
    intro a b ha
    unfold opsL
    split
    · exact ⟨fun o h => by simp at h, by simp⟩
    · obtain ⟨t, h⟩ := opL_T s a b ha
      obtain ⟨h1, h2⟩ := ih _ (opL s a b).bad h
      dsimp only
      refine ⟨fun o ho => ?_, by rw [List.length_cons]; omega⟩
      rcases List.mem_cons.1 ho with rfl | ho
      · exact t
      · exact h1 o ho
theorem frL_T (s : ByteArray) : FrmT (frL s).1 ∧ (frL s).1.ops.length ≤ 255 := by
  obtain ⟨k0, k1⟩ := byAt_r s 0
  have h0 := next_r s 0 (Nat.zero_le _)
  unfold frL
  generalize hf1 : fewL s (nextAt s 0) (decide (s.size ≤ 0)) = f1
  obtain ⟨p1, p2, p3⟩ := hf1 ▸ fewL_r s (nextAt s 0) (decide (s.size ≤ 0)) h0
  generalize hlo : (if byAt s 0 = 5 then (0, f1.2.1, f1.2.2) else numL s 8 0 f1.2.1 f1.2.2 0) = lo
  obtain ⟨l1, l2, l3⟩ : 0 ≤ lo.1 ∧ lo.1 < 72057594037927936 ∧ lo.2.1 ≤ s.size := by
    rw [← hlo]
    split
    · exact ⟨Int.le_refl _, by omega, p3⟩
    · exact numL_r s 8 0 _ _ 0 (by omega) (by decide) (by omega) p3
  generalize hhi : (if byAt s 0 = 5 then (0, f1.2.1, f1.2.2) else numL s 8 0 lo.2.1 lo.2.2 0) = hi
  obtain ⟨i1, i2, i3⟩ : 0 ≤ hi.1 ∧ hi.1 < 72057594037927936 ∧ hi.2.1 ≤ s.size := by
    rw [← hhi]
    split
    · exact ⟨Int.le_refl _, by omega, p3⟩
    · exact numL_r s 8 0 _ _ 0 (by omega) (by decide) (by omega) l3
  dsimp only
  rw [hlo, hhi]
  generalize hdg : (if byAt s 0 = 1 then ((byAt s hi.2.1, byAt s (nextAt s hi.2.1), byAt s (nextAt s (nextAt s hi.2.1))), nextAt s (nextAt s (nextAt s hi.2.1)), ((hi.2.2 || decide (s.size ≤ hi.2.1)) || decide (s.size ≤ nextAt s hi.2.1)) || decide (s.size ≤ nextAt s (nextAt s hi.2.1))) else ((0, 0, 0), hi.2.1, hi.2.2) : (Int × Int × Int) × Nat × Bool) = dg
  obtain ⟨d1, d2⟩ : Byt [dg.1.1, dg.1.2.1, dg.1.2.2] ∧ dg.2.1 ≤ s.size := by
    rw [← hdg]
    split
    · have u0 := byAt_r s hi.2.1
      have u1 := byAt_r s (nextAt s hi.2.1)
      have u2 := byAt_r s (nextAt s (nextAt s hi.2.1))
      exact ⟨Byt.nil.cons (by dsimp only; omega) |>.cons (by dsimp only; omega) |>.cons (by dsimp only; omega), next_r _ _ (next_r _ _ (next_r _ _ i3))⟩
    · exact ⟨Byt.nil.cons (by dsimp only; omega) |>.cons (by dsimp only; omega) |>.cons (by dsimp only; omega), i3⟩
  obtain ⟨c0, c1⟩ := byAt_r s dg.2.1
  obtain ⟨o1, o2⟩ := opsL_T s (byAt s dg.2.1).toNat (nextAt s dg.2.1) (dg.2.2 || decide (s.size ≤ dg.2.1)) (next_r _ _ d2)
  refine ⟨⟨by dsimp only; omega, ⟨p1, p2⟩, ⟨l1, by dsimp only; omega⟩, ⟨i1, by dsimp only; omega⟩, d1, ?_⟩, ?_⟩
  · dsimp only
    split
    · exact o1
    · intro o h; cases h
  · split
    · omega
    · exact Nat.zero_le _
/-- Bytes of a right frame are read so. -/
theorem good_frL {f : Frm} {s : ByteArray} (h : Good f (dl s)) : frL (s.extract 0 (s.size - 3)) = (f, false) := by
  have hl := h.len
  rw [dl_len] at hl
  have hd : dl (s.extract 0 (s.size - 3)) = frB f ++ [] := by
    have := h.body.1
    rw [dl_len] at this
    rw [List.append_nil, ← this]
    unfold dl
    rw [Lib.extract_data, ← List.map_take]
    simp
  exact frL_lies h.w (lies_of hd)
theorem good_four {f : Frm} {s : ByteArray} (h : Good f (dl s)) : 4 ≤ s.size := by
  have hl := h.len
  rw [dl_len] at hl
  have : 1 ≤ (frB f).length := by unfold frB; rw [List.length_cons]; omega
  omega
theorem chk_byt (s : ByteArray) : Byt (chk s) := by
  have e : ∀ n, 0 ≤ dig s n ∧ dig s n < 256 := fun n => by unfold dig outB; omega
  exact Byt.nil.cons (e 2) |>.cons (e 1) |>.cons (e 0)
theorem good_eq {f : Frm} {s : ByteArray} (h : Good f (dl s)) : strOfNums (packL f) = s := by rw [← h.2.2, son_dl]
theorem good_mk {f : Frm} {s : ByteArray} (hok : okFrm f = true) (hT : FrT f) (e : strOfNums (packL f) = s) : Good f (dl s) := by
  have hb : Byt (packL f) := by
    have hw := okFrm_w hok hT.lo hT.rf
    intro x hx
    rcases List.mem_append.1 hx with h | h
    · exact frB_byt hw hT.dg x h
    · exact chk_byt _ x h
  exact ⟨hok, hT, by rw [← e, dl_son hb]⟩
end Go.Proofs.YtgccjefbedpmpaaGreatDoor
namespace Go.Proofs.YtgccjefbedpmpaaGreatDoor
open Go.RowKit
theorem varintN (x : Int) (h0 : 0 ≤ x) (h1 : x < 18446744073709551616) (w : World) : Calls Tryz.prog 73 #[.int .u64 x] w fun e w' => e = .returned (.string (strOfNums (vn x.toNat))) ∧ Below w.heap.size w w' := by
  have h := varint_any x.toNat (by omega) w
  rw [Int.toNat_of_nonneg h0, vb_eq] at h
  exact h
theorem rbytes_any (o : Opn) (ho : OpW o) (hk : o.kd = 1 ∨ o.kd = 2) (w : World) : Calls Tryz.prog 74 #[.agg #[.int .i64 o.kd, .int .u32 o.cl, .int .u32 o.ck, .int .u32 o.st, .int .u64 o.rf, .int .i32 o.ch]] w fun e w' => e = .returned (.string (strOfNums (opB o))) ∧ Below w.heap.size w w' := by
  obtain ⟨kd, cl, ck, st, rf, ch⟩ := o
  obtain ⟨hkd, ⟨a1, b1⟩, ⟨a2, b2⟩, ⟨a3, b3⟩, ⟨a4, b4⟩, ⟨a5, b5, c5⟩⟩ := ho
  dsimp only at *
  have s1 := (vn_size 9 cl.toNat (by omega)).2
  have s2 := (vn_size 9 ck.toNat (by omega)).2
  have s3 := (vn_size 9 st.toNat (by omega)).2
  have s4 := (vn_size 9 rf.toNat (by omega)).2
  have s5 := (vn_size 9 ch.toNat (by omega)).2
  have x1 : IntKind.u64.wrap cl = cl := u64r _ (by omega)
  have x2 : IntKind.u64.wrap ck = ck := u64r _ (by omega)
  have x3 : IntKind.u64.wrap st = st := u64r _ (by omega)
  have x5 : IntKind.u64.wrap ch = ch := u64r _ (by omega)
  rcases hk with rfl | rfl
  · refine (bytes_gen cl ck st rf ch _ _ _ _ _ (fun W => varintN cl a1 (by omega) W) (fun W => varintN ck a2 (by omega) W) (fun W => varintN st a3 (by omega) W) (fun W => varintN rf a4 (by omega) W) (fun W => varintN ch a5 (by omega) W) (by rw [strOfNums_size]; omega) (by rw [strOfNums_size]; omega) (by rw [strOfNums_size]; omega) (by rw [strOfNums_size]; omega) (by rw [strOfNums_size]; omega) x1 x2 x3 x5 w).mono ?_
    rintro e w' ⟨rfl, hb⟩
    refine ⟨?_, hb⟩
    simp only [← son_app, opB, if_true, List.append_assoc, List.cons_append, List.nil_append]
  · refine (bytes_del cl ck st rf ch _ _ _ _ (fun W => varintN cl a1 (by omega) W) (fun W => varintN ck a2 (by omega) W) (fun W => varintN st a3 (by omega) W) (fun W => varintN rf a4 (by omega) W) (by rw [strOfNums_size]; omega) (by rw [strOfNums_size]; omega) (by rw [strOfNums_size]; omega) (by rw [strOfNums_size]; omega) x1 x2 x3 w).mono ?_
    rintro e w' ⟨rfl, hb⟩
    refine ⟨?_, hb⟩
    simp only [← son_app, opB, show ¬ (2 : Int) = 1 by decide, if_false, List.append_assoc, List.cons_append, List.nil_append, List.append_nil]
theorem conv3d (W : World) (g : Nat) (x y z : Int) (h4 : W.cell? ⟨g, 4, none⟩ = some (.int .u8 x)) (h5 : W.cell? ⟨g, 5, none⟩ = some (.int .u8 y)) (h6 : W.cell? ⟨g, 6, none⟩ = some (.int .u8 z)) : (convert 59 9 (.slice (some ⟨g, 4, none⟩) 3 3)).run Tryz.prog W = .ok (.string (strOfNums [x, y, z])) W :=
  run_convert_bytes_arg W 59 5 Tryz.underlying59 Tryz.underlying5 g 4 3 3 [x, y, z] rfl (fun i hi => by
    match i, hi with
    | 0, _ => exact h4
    | 1, _ => exact h5
    | 2, _ => exact h6) _ Tryz.underlying9
end Go.Proofs.YtgccjefbedpmpaaGreatDoor
namespace Go.Proofs.YtgccjefbedpmpaaGreatDoor
open Go.RowKit
theorem short_chk (s : ByteArray) : (rsumOf s).extract 0 3 = strOfNums (chk s) := by
  have e : outL (blks KK (mB (padM s)) RV (nblk s.size)) 32 = chk s ++ (outL (blks KK (mB (padM s)) RV (nblk s.size)) 32).drop 3 := by
    conv => lhs; rw [← List.take_append_drop 3 (outL (blks KK (mB (padM s)) RV (nblk s.size)) 32)]
    congr 1
  unfold rsumOf
  rw [e, son_app]
  exact ByteArray.extract_append_eq_left (by rw [strOfNums_size]; rfl)
/-- What lies in memory while a frame is packed. -/
structure PG (w w' : World) (k s lo hi d0 d1 d2 ops : Value) : Prop where
  below : Below w.heap.size w w'
  roots : RowIs w' w.heap.size 80 72 fun j => .int .u32 (RV j)
  cells : w'.cell? ⟨w.heap.size + 1, 0, none⟩ = some k ∧ w'.cell? ⟨w.heap.size + 1, 1, none⟩ = some s ∧ w'.cell? ⟨w.heap.size + 1, 2, none⟩ = some lo ∧ w'.cell? ⟨w.heap.size + 1, 3, none⟩ = some hi ∧ w'.cell? ⟨w.heap.size + 1, 4, none⟩ = some d0 ∧ w'.cell? ⟨w.heap.size + 1, 5, none⟩ = some d1 ∧ w'.cell? ⟨w.heap.size + 1, 6, none⟩ = some d2 ∧ w'.cell? ⟨w.heap.size + 1, 7, none⟩ = some ops
section
variable {w W w2 : World} {k s lo hi d0 d1 d2 ops : Value}
theorem PG.kept (h : PG w W k s lo hi d0 d1 d2 ops) (hb : Below W.heap.size W w2) : PG w w2 k s lo hi d0 d1 d2 ops := by
  obtain ⟨c0, c1, c2, c3, c4, c5, c6, c7⟩ := h.cells
  have kk : ∀ {p : Addr} {v : Value}, W.cell? p = some v → w2.cell? p = some v := fun e => (hb.cell (block_lt_of_cell e)).trans e
  exact ⟨h.below.trans (hb.mono h.below.size), h.roots.below hb h.roots.lt, kk c0, kk c1, kk c2, kk c3, kk c4, kk c5, kk c6, kk c7⟩
theorem PG.alloc (h : PG w W k s lo hi d0 d1 d2 ops) (o : Obj) : PG w (W.alloc o) k s lo hi d0 d1 d2 ops := h.kept ((Below.refl _ _).alloc (Nat.le_refl _) o)
theorem PG.drew (h : PG w W k s lo hi d0 d1 d2 ops) : PG w W.drew k s lo hi d0 d1 d2 ops := ⟨h.below.drew, h.roots, h.cells⟩
theorem PG.start (w : World) (k s lo hi d0 d1 d2 ops : Value) : PG w ((w.alloc (.cells (rowOf 72 fun j => .int .u32 (RV j)) 80)).alloc (.cells #[k, s, lo, hi, d0, d1, d2, ops] 58)) k s lo hi d0 d1 d2 ops := by
  have hs : (w.alloc (.cells (rowOf 72 fun j => .int .u32 (RV j)) 80)).heap.size = w.heap.size + 1 := by simp
  have hc := heap_alloc_new (w.alloc (.cells (rowOf 72 fun j => .int .u32 (RV j)) 80)) (.cells #[k, s, lo, hi, d0, d1, d2, ops] 58)
  rw [hs] at hc
  refine ⟨((Below.refl _ _).alloc (Nat.le_refl _) _).alloc (by simp) _, (RowIs.new w 80 72 _).below ((Below.refl _ _).alloc (Nat.le_refl _) _) (by simp), ?_⟩
  exact ⟨(cell_of_row _ _ _ _ _ _ hc).trans rfl, (cell_of_row _ _ _ _ _ _ hc).trans rfl, (cell_of_row _ _ _ _ _ _ hc).trans rfl, (cell_of_row _ _ _ _ _ _ hc).trans rfl, (cell_of_row _ _ _ _ _ _ hc).trans rfl, (cell_of_row _ _ _ _ _ _ hc).trans rfl, (cell_of_row _ _ _ _ _ _ hc).trans rfl, (cell_of_row _ _ _ _ _ _ hc).trans rfl⟩
end
set_option maxRecDepth 100000 in
theorem rpack_bad (f : Frm) (a : Option Addr) (cap : Nat) (hT : FrmT f) (hn : f.ops.length ≤ 9223372036854775807) (w : World) (hO : OpsIs w a f.ops) (hok : okFrm f = false) :
    Calls Tryz.prog 42 #[.agg (rowOf 72 fun j => .int .u32 (RV j)), f.val (.slice a f.ops.length cap)] w fun e w' => e = .returned (.tuple #[.string ByteArray.empty, .int .i64 8]) ∧ Below w.heap.size w w' := by
  obtain ⟨k, ss, lo, hi, d0, d1, d2, os⟩ := f
  unfold Frm.val
  dsimp only at *
  have hps := PG.start w (.int .i64 k) (.int .u32 ss) (.int .u64 lo) (.int .u64 hi) (.int .u8 d0) (.int .u8 d1) (.int .u8 d2) (.slice a os.length cap)
  have hF := rIsFrame_any k ss lo hi d0 d1 d2 a cap os hT.ops hn _ (hO.below hps.below)
  rw [hok] at hF
  have HF : Hid (Calls _ _ _ _ _) := hF
  clear hF hok
  go_enter Tryz.func42, Tryz.ntmps42
  go_wp2_with (go_at_call 72; refine HF.out.mono ?_; rintro e w1 ⟨rfl, hb1⟩)
  go_ret2
  exact ⟨rfl, (hps.kept hb1).below⟩
set_option maxRecDepth 100000 in
set_option maxHeartbeats 4000000 in
theorem rpack_good (f : Frm) (a : Option Addr) (cap : Nat) (hT : FrmT f) (w : World) (hO : OpsIs w a f.ops) (hok : okFrm f = true) :
    Calls Tryz.prog 42 #[.agg (rowOf 72 fun j => .int .u32 (RV j)), f.val (.slice a f.ops.length cap)] w fun e w' => e = .returned (.tuple #[.string (strOfNums (packL f)), .int .i64 0]) ∧ Below w.heap.size w w' := by
  have hW := okFrm_w hok hT.t.lo hT.t.rf
  have hop : ∀ o ∈ f.ops, o.ok = true := by
    rw [okFrm_eq] at hok
    simp only [Bool.and_eq_true] at hok
    exact opsOk_ok _ _ hok.2.2.2.2
  obtain ⟨k, ss, lo, hi, d0, d1, d2, os⟩ := f
  unfold Frm.val
  dsimp only at *
  have hps := PG.start w (.int .i64 k) (.int .u32 ss) (.int .u64 lo) (.int .u64 hi) (.int .u8 d0) (.int .u8 d1) (.int .u8 d2) (.slice a os.length cap)
  have hF := rIsFrame_any k ss lo hi d0 d1 d2 a cap os hT.ops (by have := hW.n.1; dsimp only at this; omega) _ (hO.below hps.below)
  rw [hok] at hF
  have HF : Hid (Calls _ _ _ _ _) := hF
  clear hF
  obtain ⟨⟨k1, k2⟩, ⟨a1, b1⟩, ⟨a2, b2, c2⟩, ⟨a3, b3, c3⟩, hd, ⟨n1, n2⟩, ho⟩ := hW
  dsimp only at *
  have y1 : IntKind.u8.wrap k = k := by
    have : IntKind.u8.wrap k = k % 256 := by simp [IntKind.wrap, IntKind.bits, IntKind.signed]
    rw [this]; omega
  have y2 : IntKind.u64.wrap ss = ss := u64r _ (by omega)
  have s1 := (vn_size 9 ss.toNat (by omega)).2
  have n1' : (strOfNums [k]).size + (strOfNums (vn ss.toNat)).size ≤ 9223372036854775807 := by simp only [strOfNums_size, List.length_cons, List.length_nil]; omega
  go_enter Tryz.func42, Tryz.ntmps42
  go_wp2_with (go_at_call 72; refine HF.out.mono ?_; rintro e w1 ⟨rfl, hb1⟩; have hp1 := hps.kept hb1)
  go_cut [7] (fun sv wx => sv = .string (strOfNums ([k] ++ vn ss.toNat)) ∧ PG w wx (.int .i64 k) (.int .u32 ss) (.int .u64 lo) (.int .u64 hi) (.int .u8 d0) (.int .u8 d1) (.int .u8 d2) (.slice a os.length cap))
  case first =>
    refine wp_region_held_drew (S := fun w' => PG w w' (.int .i64 k) (.int .u32 ss) (.int .u64 lo) (.int .u64 hi) (.int .u8 d0) (.int .u8 d1) (.int .u8 d2) (.slice a os.length cap)) (by kernel_rfl) hp1.drew (fun hHeld => ?_)
    generalize World.drew _ = wD at hHeld ⊢
    refine wpAnyH_take (i := 0) (oi := { dst := some 14, op := _, type := _, pos := _, after := _, guard := _ }) rfl (by kernel_rfl) (by kernel_rfl) (by kernel_rfl) (fun _ _ _ h => h) (Or.inl ⟨by rfl, fun w hS => by obtain ⟨c0, c1, c2, c3, c4, c5, c6, c7⟩ := hS.cells; go_simp; rfl⟩) hHeld ?_
    simp only [Act.put, List.setIfInBounds_toArray, List.set_cons_zero, List.set_cons_succ]
    refine wpAnyH_take (i := 1) (oi := { dst := some 15, op := _, type := _, pos := _, after := _, guard := _ }) rfl (by kernel_rfl) (by kernel_rfl) (by kernel_rfl) (fun _ _ _ h => h) (Or.inl ⟨by rfl, fun w hS => by obtain ⟨c0, c1, c2, c3, c4, c5, c6, c7⟩ := hS.cells; go_simp; rfl⟩) hHeld ?_
    simp only [Act.put, List.setIfInBounds_toArray, List.set_cons_zero, List.set_cons_succ]
    refine wpAnyH_take (i := 2) (oi := { dst := some 16, op := _, type := _, pos := _, after := _, guard := _ }) rfl (by kernel_rfl) (by kernel_rfl) (by kernel_rfl) (fun _ _ _ h => h) (Or.inl ⟨by rfl, fun w hS => by obtain ⟨c0, c1, c2, c3, c4, c5, c6, c7⟩ := hS.cells; go_simp; rfl⟩) hHeld ?_
    simp only [Act.put, List.setIfInBounds_toArray, List.set_cons_zero, List.set_cons_succ]
    refine wpAnyH_take (i := 5) (oi := { dst := some 19, op := _, type := _, pos := _, after := _, guard := _ }) rfl (by kernel_rfl) (by kernel_rfl) (by kernel_rfl) (fun _ _ _ h => h) (Or.inl ⟨by rfl, fun w hS => by obtain ⟨c0, c1, c2, c3, c4, c5, c6, c7⟩ := hS.cells; go_simp; rfl⟩) hHeld ?_
    simp only [Act.put, List.setIfInBounds_toArray, List.set_cons_zero, List.set_cons_succ]
    refine wpAnyH_take (i := 6) (oi := { dst := some 20, op := _, type := _, pos := _, after := _, guard := _ }) rfl (by kernel_rfl) (by kernel_rfl) (by kernel_rfl) (fun _ _ _ h => h) (Or.inl ⟨by rfl, fun w hS => by obtain ⟨c0, c1, c2, c3, c4, c5, c6, c7⟩ := hS.cells; go_simp; rfl⟩) hHeld ?_
    simp only [Act.put, List.setIfInBounds_toArray, List.set_cons_zero, List.set_cons_succ]
    refine wpAnyH_take (i := 7) (oi := { dst := some 21, op := _, type := _, pos := _, after := _, guard := _ }) rfl (by kernel_rfl) (by kernel_rfl) (by kernel_rfl) (fun _ _ _ h => h) (Or.inl ⟨by rfl, fun w hS => by obtain ⟨c0, c1, c2, c3, c4, c5, c6, c7⟩ := hS.cells; go_simp; rfl⟩) hHeld ?_
    simp only [Act.put, List.setIfInBounds_toArray, List.set_cons_zero, List.set_cons_succ]
    refine wpAnyH_ready (rs := [3, 8]) (by kernel_rfl) (by simp) (AllReadyH.cons (o := { dst := some 17, op := _, type := _, pos := _, after := _, guard := _ }) rfl (fun K hK => ?_) (AllReadyH.cons (o := { dst := some 22, op := _, type := _, pos := _, after := _, guard := _ }) rfl (fun K hK => ?_) AllReadyH.nil))
    · go_simp
      have q := alloc_cell wD (.int .u8 k) 5
      refine hK.out _ _ (hHeld.alloc _) (fun hHeld => ?_)
      clear hK K
      refine wpAnyH_ready (rs := [4, 8]) (by kernel_rfl) (by simp) (AllReadyH.cons (o := { dst := some 18, op := _, type := _, pos := _, after := _, guard := _ }) rfl (fun K hK => ?_) (AllReadyH.cons (o := { dst := some 22, op := _, type := _, pos := _, after := _, guard := _ }) rfl (fun K hK => ?_) AllReadyH.nil))
      · have hq := conv_at _ _ _ q
        go_simp
        clear hq
        refine hK.out _ _ hHeld (fun hHeld => ?_)
        clear hK K
        refine wpAnyH_ready (rs := [8]) (by kernel_rfl) (by simp) (AllReadyH.cons (o := { dst := some 22, op := _, type := _, pos := _, after := _, guard := _ }) rfl (fun K hK => ?_) AllReadyH.nil)
        go_simp
        refine (varintN ss a1 (by omega) _).mono ?_
        rintro e wc1 ⟨rfl, hbw⟩
        refine hK.out _ _ (hHeld.kept hbw) (fun hHeld => ?_)
        clear hK K
        refine wpAnyH_take (i := 9) (oi := { dst := some 23, op := _, type := _, pos := _, after := _, guard := _ }) rfl (by kernel_rfl) (by kernel_rfl) (by kernel_rfl) (fun _ _ _ h => h) (Or.inl ⟨by rfl, fun w _ => by have hss := @run_string_add_sum Tryz.prog w (strOfNums [k]) (strOfNums (vn ss.toNat)) n1'; go_simp; rfl⟩) hHeld ?_
        simp only [Act.put, List.setIfInBounds_toArray, List.set_cons_zero, List.set_cons_succ]
        refine wpAnyH_ready (rs := [10]) (by kernel_rfl) (by simp) (AllReadyH.cons (o := { dst := some 7, op := _, type := _, pos := _, after := _, guard := _ }) rfl (fun K hK => ?_) AllReadyH.nil)
        go_simp
        refine hK.out _ _ hHeld (fun hHeld => ?_)
        clear hK K
        refine wpAnyH_done (by kernel_rfl) ?_ _
        go_wp2_with fail
        go_meet
        exact ⟨by rw [son_app], hHeld⟩
      · go_simp
        refine (varintN ss a1 (by omega) _).mono ?_
        rintro e wc1 ⟨rfl, hbw⟩
        have q := (hbw.cell (block_lt_of_cell q)).trans q
        refine hK.out _ _ (hHeld.kept hbw) (fun hHeld => ?_)
        clear hK K
        refine wpAnyH_ready (rs := [4]) (by kernel_rfl) (by simp) (AllReadyH.cons (o := { dst := some 18, op := _, type := _, pos := _, after := _, guard := _ }) rfl (fun K hK => ?_) AllReadyH.nil)
        have hq := conv_at _ _ _ q
        go_simp
        clear hq
        refine hK.out _ _ hHeld (fun hHeld => ?_)
        clear hK K
        refine wpAnyH_take (i := 9) (oi := { dst := some 23, op := _, type := _, pos := _, after := _, guard := _ }) rfl (by kernel_rfl) (by kernel_rfl) (by kernel_rfl) (fun _ _ _ h => h) (Or.inl ⟨by rfl, fun w _ => by have hss := @run_string_add_sum Tryz.prog w (strOfNums [k]) (strOfNums (vn ss.toNat)) n1'; go_simp; rfl⟩) hHeld ?_
        simp only [Act.put, List.setIfInBounds_toArray, List.set_cons_zero, List.set_cons_succ]
        refine wpAnyH_ready (rs := [10]) (by kernel_rfl) (by simp) (AllReadyH.cons (o := { dst := some 7, op := _, type := _, pos := _, after := _, guard := _ }) rfl (fun K hK => ?_) AllReadyH.nil)
        go_simp
        refine hK.out _ _ hHeld (fun hHeld => ?_)
        clear hK K
        refine wpAnyH_done (by kernel_rfl) ?_ _
        go_wp2_with fail
        go_meet
        exact ⟨by rw [son_app], hHeld⟩
    · go_simp
      refine (varintN ss a1 (by omega) _).mono ?_
      rintro e wc1 ⟨rfl, hbw⟩
      refine hK.out _ _ (hHeld.kept hbw) (fun hHeld => ?_)
      clear hK K
      refine wpAnyH_ready (rs := [3]) (by kernel_rfl) (by simp) (AllReadyH.cons (o := { dst := some 17, op := _, type := _, pos := _, after := _, guard := _ }) rfl (fun K hK => ?_) AllReadyH.nil)
      go_simp
      have q := alloc_cell wc1 (.int .u8 k) 5
      refine hK.out _ _ (hHeld.alloc _) (fun hHeld => ?_)
      clear hK K
      refine wpAnyH_ready (rs := [4]) (by kernel_rfl) (by simp) (AllReadyH.cons (o := { dst := some 18, op := _, type := _, pos := _, after := _, guard := _ }) rfl (fun K hK => ?_) AllReadyH.nil)
      have hq := conv_at _ _ _ q
      go_simp
      clear hq
      refine hK.out _ _ hHeld (fun hHeld => ?_)
      clear hK K
      refine wpAnyH_take (i := 9) (oi := { dst := some 23, op := _, type := _, pos := _, after := _, guard := _ }) rfl (by kernel_rfl) (by kernel_rfl) (by kernel_rfl) (fun _ _ _ h => h) (Or.inl ⟨by rfl, fun w _ => by have hss := @run_string_add_sum Tryz.prog w (strOfNums [k]) (strOfNums (vn ss.toNat)) n1'; go_simp; rfl⟩) hHeld ?_
      simp only [Act.put, List.setIfInBounds_toArray, List.set_cons_zero, List.set_cons_succ]
      refine wpAnyH_ready (rs := [10]) (by kernel_rfl) (by simp) (AllReadyH.cons (o := { dst := some 7, op := _, type := _, pos := _, after := _, guard := _ }) rfl (fun K hK => ?_) AllReadyH.nil)
      go_simp
      refine hK.out _ _ hHeld (fun hHeld => ?_)
      clear hK K
      refine wpAnyH_done (by kernel_rfl) ?_ _
      go_wp2_with fail
      go_meet
      exact ⟨by rw [son_app], hHeld⟩
  case rest =>
    obtain ⟨rfl, hP⟩ := hcut
    clear hp1 hps
    have l1 := (vn_size 9 lo.toNat (by omega)).2
    have l2 := (vn_size 9 hi.toNat (by omega)).2
    have hv9 : (strOfNums ([k] ++ vn ss.toNat)).size ≤ 20 := by rw [strOfNums_size, List.length_append, List.length_cons, List.length_nil]; omega
    obtain ⟨c0, c1, c2, c3, c4, c5, c6, c7⟩ := hP.cells
    go_upto_if 26 with fail
    go_cut [7] (fun sv wx => sv = .string (strOfNums (([k] ++ vn ss.toNat) ++ (if k ≠ 5 then vn lo.toNat ++ vn hi.toNat else []))) ∧ PG w wx (.int .i64 k) (.int .u32 ss) (.int .u64 lo) (.int .u64 hi) (.int .u8 d0) (.int .u8 d1) (.int .u8 d2) (.slice a os.length cap))
    case first =>
      by_cases k5 : k = 5
      · go_wp2_with fail
        go_meet
        exact ⟨by rw [if_neg (by simp [k5]), List.append_nil], hP⟩
      · generalize hv : strOfNums ([k] ++ vn ss.toNat) = v at hv9 ⊢
        have HV : Hid (strOfNums ([k] ++ vn ss.toNat) = v) := hv
        clear hv
        go_wp2_with fail
        refine wp_region_held_drew (S := fun w' => PG w w' (.int .i64 k) (.int .u32 ss) (.int .u64 lo) (.int .u64 hi) (.int .u8 d0) (.int .u8 d1) (.int .u8 d2) (.slice a os.length cap)) (by kernel_rfl) hP.drew (fun hHeld => ?_)
        generalize World.drew _ = wE at hHeld ⊢
        refine wpAnyH_take (i := 0) (oi := { dst := some 27, op := _, type := _, pos := _, after := _, guard := _ }) rfl (by kernel_rfl) (by kernel_rfl) (by kernel_rfl) (fun _ _ _ h => h) (Or.inl ⟨by rfl, fun w hS => by obtain ⟨c0, c1, c2, c3, c4, c5, c6, c7⟩ := hS.cells; go_simp; rfl⟩) hHeld ?_
        simp only [Act.put, List.setIfInBounds_toArray, List.set_cons_zero, List.set_cons_succ]
        refine wpAnyH_take (i := 1) (oi := { dst := some 28, op := _, type := _, pos := _, after := _, guard := _ }) rfl (by kernel_rfl) (by kernel_rfl) (by kernel_rfl) (fun _ _ _ h => h) (Or.inl ⟨by rfl, fun w hS => by obtain ⟨c0, c1, c2, c3, c4, c5, c6, c7⟩ := hS.cells; go_simp; rfl⟩) hHeld ?_
        simp only [Act.put, List.setIfInBounds_toArray, List.set_cons_zero, List.set_cons_succ]
        refine wpAnyH_take (i := 2) (oi := { dst := some 29, op := _, type := _, pos := _, after := _, guard := _ }) rfl (by kernel_rfl) (by kernel_rfl) (by kernel_rfl) (fun _ _ _ h => h) (Or.inl ⟨by rfl, fun w hS => by obtain ⟨c0, c1, c2, c3, c4, c5, c6, c7⟩ := hS.cells; go_simp; rfl⟩) hHeld ?_
        simp only [Act.put, List.setIfInBounds_toArray, List.set_cons_zero, List.set_cons_succ]
        refine wpAnyH_take (i := 5) (oi := { dst := some 32, op := _, type := _, pos := _, after := _, guard := _ }) rfl (by kernel_rfl) (by kernel_rfl) (by kernel_rfl) (fun _ _ _ h => h) (Or.inl ⟨by rfl, fun w hS => by obtain ⟨c0, c1, c2, c3, c4, c5, c6, c7⟩ := hS.cells; go_simp; rfl⟩) hHeld ?_
        simp only [Act.put, List.setIfInBounds_toArray, List.set_cons_zero, List.set_cons_succ]
        refine wpAnyH_take (i := 6) (oi := { dst := some 33, op := _, type := _, pos := _, after := _, guard := _ }) rfl (by kernel_rfl) (by kernel_rfl) (by kernel_rfl) (fun _ _ _ h => h) (Or.inl ⟨by rfl, fun w hS => by obtain ⟨c0, c1, c2, c3, c4, c5, c6, c7⟩ := hS.cells; go_simp; rfl⟩) hHeld ?_
        simp only [Act.put, List.setIfInBounds_toArray, List.set_cons_zero, List.set_cons_succ]
        refine wpAnyH_ready (rs := [3]) (by kernel_rfl) (by simp) (AllReadyH.cons (o := { dst := some 30, op := _, type := _, pos := _, after := _, guard := _ }) rfl (fun K hK => ?_) AllReadyH.nil)
        go_simp
        refine (varintN lo a2 (by omega) _).mono ?_
        rintro e wb3 ⟨rfl, hbw3⟩
        refine hK.out _ _ (hHeld.kept hbw3) (fun hHeld => ?_)
        clear hK K
        refine wpAnyH_take (i := 4) (oi := { dst := some 31, op := _, type := _, pos := _, after := _, guard := _ }) rfl (by kernel_rfl) (by kernel_rfl) (by kernel_rfl) (fun _ _ _ h => h) (Or.inl ⟨by rfl, fun w _ => by have hss := @run_string_add_sum Tryz.prog w (v) (strOfNums (vn lo.toNat)) (by first | (simp only [strOfNums_size]; omega) | (simp only [ByteArray.size_append, strOfNums_size]; omega)); go_simp; rfl⟩) hHeld ?_
        simp only [Act.put, List.setIfInBounds_toArray, List.set_cons_zero, List.set_cons_succ]
        refine wpAnyH_ready (rs := [7]) (by kernel_rfl) (by simp) (AllReadyH.cons (o := { dst := some 34, op := _, type := _, pos := _, after := _, guard := _ }) rfl (fun K hK => ?_) AllReadyH.nil)
        go_simp
        refine (varintN hi a3 (by omega) _).mono ?_
        rintro e wb7 ⟨rfl, hbw7⟩
        refine hK.out _ _ (hHeld.kept hbw7) (fun hHeld => ?_)
        clear hK K
        refine wpAnyH_take (i := 8) (oi := { dst := some 35, op := _, type := _, pos := _, after := _, guard := _ }) rfl (by kernel_rfl) (by kernel_rfl) (by kernel_rfl) (fun _ _ _ h => h) (Or.inl ⟨by rfl, fun w _ => by have hss := @run_string_add_sum Tryz.prog w (v ++ strOfNums (vn lo.toNat)) (strOfNums (vn hi.toNat)) (by first | (simp only [strOfNums_size]; omega) | (simp only [ByteArray.size_append, strOfNums_size]; omega)); go_simp; rfl⟩) hHeld ?_
        simp only [Act.put, List.setIfInBounds_toArray, List.set_cons_zero, List.set_cons_succ]
        refine wpAnyH_ready (rs := [9]) (by kernel_rfl) (by simp) (AllReadyH.cons (o := { dst := some 7, op := _, type := _, pos := _, after := _, guard := _ }) rfl (fun K hK => ?_) AllReadyH.nil)
        go_simp
        refine hK.out _ _ hHeld (fun hHeld => ?_)
        clear hK K
        refine wpAnyH_done (by kernel_rfl) ?_ _
        go_wp2_with fail
        go_meet
        exact ⟨by rw [if_pos k5, son_app, HV.out, son_app, ByteArray.append_assoc], hHeld⟩
    case rest =>
      clear hP c0 c1 c2 c3 c4 c5 c6 c7 hv9
      obtain ⟨rfl, hP⟩ := hcut
      obtain ⟨L1, hL1⟩ : ∃ x, x = ([k] ++ vn ss.toNat) ++ (if k ≠ 5 then vn lo.toNat ++ vn hi.toNat else []) := ⟨_, rfl⟩
      have hl1 : L1.length ≤ 40 := by rw [hL1]; split <;> simp only [List.length_append, List.length_cons, List.length_nil] <;> omega
      have h1s := strOfNums_size L1
      rw [← hL1]
      obtain ⟨c0, c1, c2, c3, c4, c5, c6, c7⟩ := hP.cells
      have HL1 : Hid (L1 = _) := hL1
      clear hL1
      go_upto_if 38 with fail
      go_cut [7] (fun sv wx => sv = .string (strOfNums (L1 ++ (if k = 1 then [d0, d1, d2] else []))) ∧ PG w wx (.int .i64 k) (.int .u32 ss) (.int .u64 lo) (.int .u64 hi) (.int .u8 d0) (.int .u8 d1) (.int .u8 d2) (.slice a os.length cap))
      case first =>
        by_cases k5 : k = 1
        · have hdg := conv3d _ _ _ _ _ c4 c5 c6
          have hss3 := fun W => @run_string_add_sum Tryz.prog W (strOfNums L1) (strOfNums [d0, d1, d2]) (by rw [h1s, strOfNums_size, List.length_cons, List.length_cons, List.length_cons, List.length_nil]; omega)
          go_wp2_with fail
          go_meet
          exact ⟨by rw [if_pos k5, son_app], hP⟩
        · go_wp2_with fail
          go_meet
          exact ⟨by rw [if_neg k5, List.append_nil], hP⟩
      case rest =>
        clear hP c0 c1 c2 c3 c4 c5 c6 c7
        obtain ⟨rfl, hP⟩ := hcut
        obtain ⟨L2, hL2⟩ : ∃ x, x = L1 ++ (if k = 1 then [d0, d1, d2] else []) := ⟨_, rfl⟩
        have hl2 : L2.length ≤ 43 := by rw [hL2]; split <;> simp only [List.length_append, List.length_cons, List.length_nil] <;> omega
        have h2s := strOfNums_size L2
        rw [← hL2]
        obtain ⟨c0, c1, c2, c3, c4, c5, c6, c7⟩ := hP.cells
        have HL2 : Hid (L2 = _) := hL2
        clear hL2 h1s hl1
        by_cases k2' : 2 < k
        · have n3 : os.length < 256 := by omega
          have hw8 : IntKind.u8.wrap (os.length : Int) = (os.length : Int) := by
            have : IntKind.u8.wrap (os.length : Int) = (os.length : Int) % 256 := by simp [IntKind.wrap, IntKind.bits, IntKind.signed]
            rw [this]; omega
          have hcv := conv_one
          have hss2 := fun W => @run_string_add_sum Tryz.prog W (strOfNums L2) (strOfNums [(os.length : Int)]) (by rw [h2s, strOfNums_size, List.length_cons, List.length_nil]; omega)
          have HOW : Hid (∀ o ∈ os, OpW o) := ho
          have HOP : Hid (∀ o ∈ os, o.ok = true) := hop
          have HO : Hid (OpsIs w a os) := hO
          have HF2 : Hid (frB ⟨k, ss, lo, hi, d0, d1, d2, os⟩ = (L2 ++ [(os.length : Int)]) ++ osB os) := by
            show _ = _
            rw [HL2.out, HL1.out]; simp only [frB, if_pos k2', List.append_assoc, List.cons_append, List.nil_append]
          clear ho hop hO n2 hd hT hok
          go_wp2_with fail
          have hPF := hP.alloc (.cells #[.int .u8 (os.length : Int)] 5)
          have hst : strOfNums L2 ++ strOfNums [(os.length : Int)] = strOfNums ((L2 ++ [(os.length : Int)]) ++ osB (os.take 0)) := by simp [son_app, osB]
          clear hP c0 c1 c2 c3 c4 c5 c6 c7 hss2 hcv
          go_loopw [7, 8] (fun sv iv wr => ∃ i : Nat, i ≤ os.length ∧ iv = .int .i64 i ∧ sv = .string (strOfNums ((L2 ++ [(os.length : Int)]) ++ osB (os.take i))) ∧ PG w wr (.int .i64 k) (.int .u32 ss) (.int .u64 lo) (.int .u64 hi) (.int .u8 d0) (.int .u8 d1) (.int .u8 d2) (.slice a os.length cap)) (fun _ iv _ => os.length - (intOf iv).toNat)
          case atStart => exact ⟨0, Nat.zero_le _, rfl, by rw [hst], hPF⟩
          case round =>
            obtain ⟨i, hi', rfl, rfl, hP⟩ := hrel
            clear hst hPF
            obtain ⟨c0, c1, c2, c3, c4, c5, c6, c7⟩ := hP.cells
            have hlen : ((L2 ++ [(os.length : Int)]) ++ osB (os.take i)).length ≤ 100000 := by
              have := osB_len (os.take i) (fun o h => HOW.out o (List.mem_of_mem_take h))
              have h2 : (os.take i).length ≤ 256 := by rw [List.length_take]; omega
              simp only [List.length_append, List.length_cons, List.length_nil] at *
              omega
            have hls := strOfNums_size ((L2 ++ [(os.length : Int)]) ++ osB (os.take i))
            by_cases hlt : i < os.length
            · have li : (i : Int) < (os.length : Int) := by omega
              rcases HO.out with h0 | ⟨g, off, rfl, hO⟩
              · subst h0; cases hlt
              obtain ⟨q0, q1, q2, q3, q4, q5⟩ := (hO.below hP.below).cells hlt
              have hwi := HOW.out os[i] (List.getElem_mem hlt)
              have hki := ok_kinds (HOP.out os[i] (List.getElem_mem hlt))
              have htk := osB_take os hlt
              have hbl := osB_len [os[i]] (by intro o h; rw [List.mem_singleton.1 h]; exact hwi)
              simp only [osB, List.append_nil, List.length_cons, List.length_nil] at hbl
              have HWi : Hid (OpW os[i] ∧ (os[i].kd = 1 ∨ os[i].kd = 2)) := ⟨hwi, hki⟩
              have HTK : Hid (_ = _) := htk
              generalize hX : (L2 ++ [(os.length : Int)]) ++ osB (os.take i) = X at hlen hls ⊢
              have HX : Hid (_ = X) := hX
              have hss5 := fun W => @run_string_add_sum Tryz.prog W (strOfNums X) (strOfNums (opB os[i])) (by rw [hls, strOfNums_size]; omega)
              clear hwi hki hO htk hX hbl
              go_wp2_with (go_at_call 74; (refine (rbytes_any os[i] HWi.out.1 HWi.out.2 _).mono ?_; rintro e w5 ⟨rfl, hb5⟩))
              go_roundw
              case rel => exact ⟨i + 1, hlt, by go_num, by rw [HTK.out, ← List.append_assoc, HX.out, son_app], hP.kept hb5⟩
              case measure => simp [intOf]; omega
            · obtain rfl : i = os.length := by omega
              rw [List.take_length] at hlen hls ⊢
              rw [← HF2.out] at hlen hls ⊢
              generalize hX : frB ⟨k, ss, lo, hi, d0, d1, d2, os⟩ = X at hlen hls ⊢
              have HX : Hid (_ = X) := hX
              clear hX
              have HR : Hid (World.rangeAt _ w.heap.size 0 (rowOf 72 fun j => .int .u32 (RV j)).toList) := range72 hP.roots
              have h3s : (strOfNums (chk (strOfNums X))).size = 3 := by rw [strOfNums_size]; rfl
              have hss9 := fun W => @run_string_add_sum Tryz.prog W (strOfNums X) (strOfNums (chk (strOfNums X))) (by omega)
              go_wp2_with (first | (refine wpList_load_mid rfl 80 _ rfl w.heap.size 0 rfl _ _ HR.out Tryz.underlying80 rfl (by rw [Array.length_toList, rowOf_size]; exact info30) ?_; simp only [Array.toArray_toList]) | (go_at_call 75; refine (short_any _ (by omega) _).mono ?_; rw [short_chk]; rintro e w9 ⟨rfl, hb9⟩))
              go_ret2
              exact ⟨by rw [packL, HX.out, son_app]; rfl, (hP.kept hb9).below⟩
        · have HR : Hid (World.rangeAt _ w.heap.size 0 (rowOf 72 fun j => .int .u32 (RV j)).toList) := range72 hP.roots
          have h3s : (strOfNums (chk (strOfNums L2))).size = 3 := by rw [strOfNums_size]; rfl
          have hss9 := fun W => @run_string_add_sum Tryz.prog W (strOfNums L2) (strOfNums (chk (strOfNums L2))) (by omega)
          have hf : frB ⟨k, ss, lo, hi, d0, d1, d2, os⟩ = L2 := by
            rw [HL2.out, HL1.out]; simp only [frB, if_neg k2', List.append_nil, List.append_assoc, List.cons_append, List.nil_append]
          have HF2 : Hid (frB ⟨k, ss, lo, hi, d0, d1, d2, os⟩ = L2) := hf
          clear hf
          go_wp2_with (first | (refine wpList_load_mid rfl 80 _ rfl w.heap.size 0 rfl _ _ HR.out Tryz.underlying80 rfl (by rw [Array.length_toList, rowOf_size]; exact info30) ?_; simp only [Array.toArray_toList]) | (go_at_call 75; refine (short_any _ (by omega) _).mono ?_; rw [short_chk]; rintro e w9 ⟨rfl, hb9⟩))
          go_ret2
          exact ⟨by rw [packL, HF2.out, son_app]; rfl, (hP.kept hb9).below⟩
end Go.Proofs.YtgccjefbedpmpaaGreatDoor

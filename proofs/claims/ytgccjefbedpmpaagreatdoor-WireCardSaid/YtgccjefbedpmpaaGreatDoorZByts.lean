import Derived.Test.YtgccjefbedpmpaaGreatDoorGRSum
import Derived.Deep.RegionHeld3
namespace Go.Proofs.YtgccjefbedpmpaaGreatDoor
open Go.RowKit
theorem varint_small (x : Int) (h0 : 0 ≤ x) (h1 : x < 128) (w : World) :
    Calls Tryz.prog 73 #[.int .u64 x] w fun e w' => e = .returned (.string (strOfNums [x])) ∧ Below w.heap.size w w' := by
  have h := varint_any x.toNat (by omega) w
  rw [Int.toNat_of_nonneg h0, vb_lt (by omega), Int.toNat_of_nonneg h0] at h
  exact h
theorem varint_key (w : World) :
    Calls Tryz.prog 73 #[.int .u64 1048577] w fun e w' => e = .returned (.string (strOfNums [129] ++ (strOfNums [128] ++ strOfNums [64]))) ∧ Below w.heap.size w w' := by
  have h := varint_any 1048577 (by omega) w
  rw [vb_ge (by omega), vb_ge (by omega), vb_lt (by omega)] at h
  exact h
theorem varint_most (w : World) :
    Calls Tryz.prog 73 #[.int .u64 1099511627776] w fun e w' => e = .returned (.string (strOfNums [128] ++ (strOfNums [128] ++ (strOfNums [128] ++ (strOfNums [128] ++ (strOfNums [128] ++ strOfNums [32])))))) ∧ Below w.heap.size w w' := by
  have h := varint_any 1099511627776 (by omega) w
  rw [vb_ge (by omega), vb_ge (by omega), vb_ge (by omega), vb_ge (by omega), vb_ge (by omega), vb_lt (by omega)] at h
  exact h
theorem conv_at (W : World) (g : Nat) (v : Int) (h : W.cell? ⟨g, 0, none⟩ = some (.int .u8 v)) : (convert 59 9 (.slice (some ⟨g, 0, none⟩) 1 1)).run Tryz.prog W = .ok (.string (strOfNums [v])) W :=
  run_convert_bytes_arg W 59 5 Tryz.underlying59 Tryz.underlying5 g 0 1 1 [v] rfl (fun i hi => by
    obtain rfl : i = 0 := by omega
    exact h) _ Tryz.underlying9
theorem kept_new {W w2 : World} {v : Value} {t : TypeId} (h : Below (W.alloc (.cells #[v] t)).heap.size (W.alloc (.cells #[v] t)) w2) : w2.cell? ⟨W.heap.size, 0, none⟩ = some v :=
  (h.cell (p := ⟨W.heap.size, 0, none⟩) (by simp)).trans ((cell_of_row _ _ _ _ _ _ (heap_alloc_new W _)).trans rfl)
theorem kept_newD {W w2 : World} {v : Value} {t : TypeId} (h : Below (W.alloc (.cells #[v] t)).drew.heap.size (W.alloc (.cells #[v] t)).drew w2) : w2.cell? ⟨W.heap.size, 0, none⟩ = some v :=
  (h.cell (p := ⟨W.heap.size, 0, none⟩) (show W.heap.size < (W.alloc (.cells #[v] t)).heap.size by simp)).trans ((cell_of_row (W.alloc (.cells #[v] t)) _ _ _ _ _ (heap_alloc_new W _)).trans rfl)
theorem alloc_cell (W : World) (v : Value) (t : TypeId) : (W.alloc (.cells #[v] t)).cell? ⟨W.heap.size, 0, none⟩ = some v := (cell_of_row _ _ _ _ _ _ (heap_alloc_new W _)).trans rfl
section
variable {B g : Nat} {w W w2 : World} {v0 v1 v2 v3 v4 v5 : Value}
theorem six_kept (hB : B ≤ w.heap.size) (h : Below W.heap.size W w2) (k : Below B w W ∧ W.cell? ⟨g, 0, none⟩ = some v0 ∧ W.cell? ⟨g, 1, none⟩ = some v1 ∧ W.cell? ⟨g, 2, none⟩ = some v2 ∧ W.cell? ⟨g, 3, none⟩ = some v3 ∧ W.cell? ⟨g, 4, none⟩ = some v4 ∧ W.cell? ⟨g, 5, none⟩ = some v5) : Below B w w2 ∧ w2.cell? ⟨g, 0, none⟩ = some v0 ∧ w2.cell? ⟨g, 1, none⟩ = some v1 ∧ w2.cell? ⟨g, 2, none⟩ = some v2 ∧ w2.cell? ⟨g, 3, none⟩ = some v3 ∧ w2.cell? ⟨g, 4, none⟩ = some v4 ∧ w2.cell? ⟨g, 5, none⟩ = some v5 :=
  ⟨k.1.trans (h.mono (Nat.le_trans hB k.1.size)), (h.cell (block_lt_of_cell k.2.1)).trans k.2.1, (h.cell (block_lt_of_cell k.2.2.1)).trans k.2.2.1, (h.cell (block_lt_of_cell k.2.2.2.1)).trans k.2.2.2.1, (h.cell (block_lt_of_cell k.2.2.2.2.1)).trans k.2.2.2.2.1, (h.cell (block_lt_of_cell k.2.2.2.2.2.1)).trans k.2.2.2.2.2.1, (h.cell (block_lt_of_cell k.2.2.2.2.2.2)).trans k.2.2.2.2.2.2⟩
theorem six_alloc (hB : B ≤ w.heap.size) (k : Below B w W ∧ W.cell? ⟨g, 0, none⟩ = some v0 ∧ W.cell? ⟨g, 1, none⟩ = some v1 ∧ W.cell? ⟨g, 2, none⟩ = some v2 ∧ W.cell? ⟨g, 3, none⟩ = some v3 ∧ W.cell? ⟨g, 4, none⟩ = some v4 ∧ W.cell? ⟨g, 5, none⟩ = some v5) (o : Obj) : Below B w (W.alloc o) ∧ (W.alloc o).cell? ⟨g, 0, none⟩ = some v0 ∧ (W.alloc o).cell? ⟨g, 1, none⟩ = some v1 ∧ (W.alloc o).cell? ⟨g, 2, none⟩ = some v2 ∧ (W.alloc o).cell? ⟨g, 3, none⟩ = some v3 ∧ (W.alloc o).cell? ⟨g, 4, none⟩ = some v4 ∧ (W.alloc o).cell? ⟨g, 5, none⟩ = some v5 := six_kept hB ((Below.refl _ _).alloc (Nat.le_refl _) o) k
theorem six_drew (k : Below B w W ∧ W.cell? ⟨g, 0, none⟩ = some v0 ∧ W.cell? ⟨g, 1, none⟩ = some v1 ∧ W.cell? ⟨g, 2, none⟩ = some v2 ∧ W.cell? ⟨g, 3, none⟩ = some v3 ∧ W.cell? ⟨g, 4, none⟩ = some v4 ∧ W.cell? ⟨g, 5, none⟩ = some v5) : Below B w W.drew ∧ W.drew.cell? ⟨g, 0, none⟩ = some v0 ∧ W.drew.cell? ⟨g, 1, none⟩ = some v1 ∧ W.drew.cell? ⟨g, 2, none⟩ = some v2 ∧ W.drew.cell? ⟨g, 3, none⟩ = some v3 ∧ W.drew.cell? ⟨g, 4, none⟩ = some v4 ∧ W.drew.cell? ⟨g, 5, none⟩ = some v5 := ⟨k.1.drew, k.2⟩
end
set_option maxRecDepth 100000 in
set_option maxHeartbeats 4000000 in
theorem bytes_gen (cl ck st rf ch : Int) (v1 v2 v3 v4 v5 : ByteArray) (h1 : Hid (∀ W, Calls Tryz.prog 73 #[.int .u64 cl] W fun e w' => e = .returned (.string v1) ∧ Below W.heap.size W w')) (h2 : Hid (∀ W, Calls Tryz.prog 73 #[.int .u64 ck] W fun e w' => e = .returned (.string v2) ∧ Below W.heap.size W w')) (h3 : Hid (∀ W, Calls Tryz.prog 73 #[.int .u64 st] W fun e w' => e = .returned (.string v3) ∧ Below W.heap.size W w')) (h4 : Hid (∀ W, Calls Tryz.prog 73 #[.int .u64 rf] W fun e w' => e = .returned (.string v4) ∧ Below W.heap.size W w')) (h5 : Hid (∀ W, Calls Tryz.prog 73 #[.int .u64 ch] W fun e w' => e = .returned (.string v5) ∧ Below W.heap.size W w')) (s1 : v1.size ≤ 10) (s2 : v2.size ≤ 10) (s3 : v3.size ≤ 10) (s4 : v4.size ≤ 10) (s5 : v5.size ≤ 10) (x1 : IntKind.u64.wrap cl = cl) (x2 : IntKind.u64.wrap ck = ck) (x3 : IntKind.u64.wrap st = st) (x5 : IntKind.u64.wrap ch = ch) (w : World) :
    Calls Tryz.prog 74 #[.agg #[.int .i64 1, .int .u32 cl, .int .u32 ck, .int .u32 st, .int .u64 rf, .int .i32 ch]] w fun e w' => e = .returned (.string (strOfNums [1] ++ v1 ++ v2 ++ v3 ++ v4 ++ v5)) ∧ Below w.heap.size w w' := by
  have y1 : IntKind.u8.wrap 1 = 1 := rfl
  have n0 : (strOfNums [1]).size = 1 := strOfNums_size [1]
  have n1 : (strOfNums [1]).size + v1.size ≤ 9223372036854775807 := by omega
  have n2 : (strOfNums [1] ++ v1).size + v2.size ≤ 9223372036854775807 := by simp only [ByteArray.size_append]; omega
  have n3 : (strOfNums [1] ++ v1 ++ v2).size + v3.size ≤ 9223372036854775807 := by simp only [ByteArray.size_append]; omega
  have n4 : (strOfNums [1] ++ v1 ++ v2 ++ v3).size + v4.size ≤ 9223372036854775807 := by simp only [ByteArray.size_append]; omega
  have n5 : (strOfNums [1] ++ v1 ++ v2 ++ v3 ++ v4).size + v5.size ≤ 9223372036854775807 := by simp only [ByteArray.size_append]; omega
  clear n0
  have c0 : (w.alloc (.cells #[.int .i64 1, .int .u32 cl, .int .u32 ck, .int .u32 st, .int .u64 rf, .int .i32 ch] 43)).cell? ⟨w.heap.size, 0, none⟩ = some (.int .i64 1) := (cell_of_row _ _ _ _ _ _ (heap_alloc_new w _)).trans rfl
  have c1 : (w.alloc (.cells #[.int .i64 1, .int .u32 cl, .int .u32 ck, .int .u32 st, .int .u64 rf, .int .i32 ch] 43)).cell? ⟨w.heap.size, 1, none⟩ = some (.int .u32 cl) := (cell_of_row _ _ _ _ _ _ (heap_alloc_new w _)).trans rfl
  have c2 : (w.alloc (.cells #[.int .i64 1, .int .u32 cl, .int .u32 ck, .int .u32 st, .int .u64 rf, .int .i32 ch] 43)).cell? ⟨w.heap.size, 2, none⟩ = some (.int .u32 ck) := (cell_of_row _ _ _ _ _ _ (heap_alloc_new w _)).trans rfl
  have c3 : (w.alloc (.cells #[.int .i64 1, .int .u32 cl, .int .u32 ck, .int .u32 st, .int .u64 rf, .int .i32 ch] 43)).cell? ⟨w.heap.size, 3, none⟩ = some (.int .u32 st) := (cell_of_row _ _ _ _ _ _ (heap_alloc_new w _)).trans rfl
  have c4 : (w.alloc (.cells #[.int .i64 1, .int .u32 cl, .int .u32 ck, .int .u32 st, .int .u64 rf, .int .i32 ch] 43)).cell? ⟨w.heap.size, 4, none⟩ = some (.int .u64 rf) := (cell_of_row _ _ _ _ _ _ (heap_alloc_new w _)).trans rfl
  have c5 : (w.alloc (.cells #[.int .i64 1, .int .u32 cl, .int .u32 ck, .int .u32 st, .int .u64 rf, .int .i32 ch] 43)).cell? ⟨w.heap.size, 5, none⟩ = some (.int .i32 ch) := (cell_of_row _ _ _ _ _ _ (heap_alloc_new w _)).trans rfl
  have hA : Below w.heap.size w (w.alloc (.cells #[.int .i64 1, .int .u32 cl, .int .u32 ck, .int .u32 st, .int .u64 rf, .int .i32 ch] 43)) := (Below.refl _ _).alloc (Nat.le_refl _) _
  have hst := six_drew ⟨hA, c0, c1, c2, c3, c4, c5⟩
  clear hA c0 c1 c2 c3 c4 c5
  go_enter Tryz.func74, Tryz.ntmps74
  go_wp2
  refine wp_region_held_drew (S := fun w' => Below w.heap.size w w' ∧ w'.cell? ⟨w.heap.size, 0, none⟩ = some (.int .i64 1) ∧ w'.cell? ⟨w.heap.size, 1, none⟩ = some (.int .u32 cl) ∧ w'.cell? ⟨w.heap.size, 2, none⟩ = some (.int .u32 ck) ∧ w'.cell? ⟨w.heap.size, 3, none⟩ = some (.int .u32 st) ∧ w'.cell? ⟨w.heap.size, 4, none⟩ = some (.int .u64 rf) ∧ w'.cell? ⟨w.heap.size, 5, none⟩ = some (.int .i32 ch)) (by kernel_rfl) hst (fun hHeld => ?_)
  clear hst
  generalize World.drew _ = wD at hHeld ⊢
  refine wpAnyH_take (i := 0) (oi := { dst := some 4, op := _, type := _, pos := _, after := _, guard := _ }) rfl (by kernel_rfl) (by kernel_rfl) (by kernel_rfl) (fun _ _ _ h => h) (Or.inl ⟨by rfl, fun w ⟨_, z0, z1, z2, z3, z4, z5⟩ => by go_simp; rfl⟩) hHeld ?_
  simp only [Act.put, List.setIfInBounds_toArray, List.set_cons_zero, List.set_cons_succ]
  refine wpAnyH_take (i := 1) (oi := { dst := some 5, op := _, type := _, pos := _, after := _, guard := _ }) rfl (by kernel_rfl) (by kernel_rfl) (by kernel_rfl) (fun _ _ _ h => h) (Or.inl ⟨by rfl, fun w ⟨_, z0, z1, z2, z3, z4, z5⟩ => by go_simp; rfl⟩) hHeld ?_
  simp only [Act.put, List.setIfInBounds_toArray, List.set_cons_zero, List.set_cons_succ]
  refine wpAnyH_take (i := 2) (oi := { dst := some 6, op := _, type := _, pos := _, after := _, guard := _ }) rfl (by kernel_rfl) (by kernel_rfl) (by kernel_rfl) (fun _ _ _ h => h) (Or.inl ⟨by rfl, fun w ⟨_, z0, z1, z2, z3, z4, z5⟩ => by go_simp; rfl⟩) hHeld ?_
  simp only [Act.put, List.setIfInBounds_toArray, List.set_cons_zero, List.set_cons_succ]
  refine wpAnyH_take (i := 5) (oi := { dst := some 9, op := _, type := _, pos := _, after := _, guard := _ }) rfl (by kernel_rfl) (by kernel_rfl) (by kernel_rfl) (fun _ _ _ h => h) (Or.inl ⟨by rfl, fun w ⟨_, z0, z1, z2, z3, z4, z5⟩ => by go_simp; rfl⟩) hHeld ?_
  simp only [Act.put, List.setIfInBounds_toArray, List.set_cons_zero, List.set_cons_succ]
  refine wpAnyH_take (i := 6) (oi := { dst := some 10, op := _, type := _, pos := _, after := _, guard := _ }) rfl (by kernel_rfl) (by kernel_rfl) (by kernel_rfl) (fun _ _ _ h => h) (Or.inl ⟨by rfl, fun w ⟨_, z0, z1, z2, z3, z4, z5⟩ => by go_simp; rfl⟩) hHeld ?_
  simp only [Act.put, List.setIfInBounds_toArray, List.set_cons_zero, List.set_cons_succ]
  refine wpAnyH_take (i := 7) (oi := { dst := some 11, op := _, type := _, pos := _, after := _, guard := _ }) rfl (by kernel_rfl) (by kernel_rfl) (by kernel_rfl) (fun _ _ _ h => h) (Or.inl ⟨by rfl, fun w ⟨_, z0, z1, z2, z3, z4, z5⟩ => by go_simp; rfl⟩) hHeld ?_
  simp only [Act.put, List.setIfInBounds_toArray, List.set_cons_zero, List.set_cons_succ]
  refine wpAnyH_take (i := 10) (oi := { dst := some 14, op := _, type := _, pos := _, after := _, guard := _ }) rfl (by kernel_rfl) (by kernel_rfl) (by kernel_rfl) (fun _ _ _ h => h) (Or.inl ⟨by rfl, fun w ⟨_, z0, z1, z2, z3, z4, z5⟩ => by go_simp; rfl⟩) hHeld ?_
  simp only [Act.put, List.setIfInBounds_toArray, List.set_cons_zero, List.set_cons_succ]
  refine wpAnyH_take (i := 11) (oi := { dst := some 15, op := _, type := _, pos := _, after := _, guard := _ }) rfl (by kernel_rfl) (by kernel_rfl) (by kernel_rfl) (fun _ _ _ h => h) (Or.inl ⟨by rfl, fun w ⟨_, z0, z1, z2, z3, z4, z5⟩ => by go_simp; rfl⟩) hHeld ?_
  simp only [Act.put, List.setIfInBounds_toArray, List.set_cons_zero, List.set_cons_succ]
  refine wpAnyH_take (i := 12) (oi := { dst := some 16, op := _, type := _, pos := _, after := _, guard := _ }) rfl (by kernel_rfl) (by kernel_rfl) (by kernel_rfl) (fun _ _ _ h => h) (Or.inl ⟨by rfl, fun w ⟨_, z0, z1, z2, z3, z4, z5⟩ => by go_simp; rfl⟩) hHeld ?_
  simp only [Act.put, List.setIfInBounds_toArray, List.set_cons_zero, List.set_cons_succ]
  refine wpAnyH_take (i := 15) (oi := { dst := some 19, op := _, type := _, pos := _, after := _, guard := _ }) rfl (by kernel_rfl) (by kernel_rfl) (by kernel_rfl) (fun _ _ _ h => h) (Or.inl ⟨by rfl, fun w ⟨_, z0, z1, z2, z3, z4, z5⟩ => by go_simp; rfl⟩) hHeld ?_
  simp only [Act.put, List.setIfInBounds_toArray, List.set_cons_zero, List.set_cons_succ]
  refine wpAnyH_take (i := 16) (oi := { dst := some 20, op := _, type := _, pos := _, after := _, guard := _ }) rfl (by kernel_rfl) (by kernel_rfl) (by kernel_rfl) (fun _ _ _ h => h) (Or.inl ⟨by rfl, fun w ⟨_, z0, z1, z2, z3, z4, z5⟩ => by go_simp; rfl⟩) hHeld ?_
  simp only [Act.put, List.setIfInBounds_toArray, List.set_cons_zero, List.set_cons_succ]
  refine wpAnyH_take (i := 17) (oi := { dst := some 21, op := _, type := _, pos := _, after := _, guard := _ }) rfl (by kernel_rfl) (by kernel_rfl) (by kernel_rfl) (fun _ _ _ h => h) (Or.inl ⟨by rfl, fun w ⟨_, z0, z1, z2, z3, z4, z5⟩ => by go_simp; rfl⟩) hHeld ?_
  simp only [Act.put, List.setIfInBounds_toArray, List.set_cons_zero, List.set_cons_succ]
  refine wpAnyH_take (i := 20) (oi := { dst := some 24, op := _, type := _, pos := _, after := _, guard := _ }) rfl (by kernel_rfl) (by kernel_rfl) (by kernel_rfl) (fun _ _ _ h => h) (Or.inl ⟨by rfl, fun w ⟨_, z0, z1, z2, z3, z4, z5⟩ => by go_simp; rfl⟩) hHeld ?_
  simp only [Act.put, List.setIfInBounds_toArray, List.set_cons_zero, List.set_cons_succ]
  refine wpAnyH_take (i := 21) (oi := { dst := some 25, op := _, type := _, pos := _, after := _, guard := _ }) rfl (by kernel_rfl) (by kernel_rfl) (by kernel_rfl) (fun _ _ _ h => h) (Or.inl ⟨by rfl, fun w ⟨_, z0, z1, z2, z3, z4, z5⟩ => by go_simp; rfl⟩) hHeld ?_
  simp only [Act.put, List.setIfInBounds_toArray, List.set_cons_zero, List.set_cons_succ]
  refine wpAnyH_ready (rs := [3, 8]) (by kernel_rfl) (by simp) (AllReadyH.cons (o := { dst := some 7, op := _, type := _, pos := _, after := _, guard := _ }) rfl (fun K hK => ?_) (AllReadyH.cons (o := { dst := some 12, op := _, type := _, pos := _, after := _, guard := _ }) rfl (fun K hK => ?_) AllReadyH.nil))
  · go_simp
    have q := alloc_cell wD (.int .u8 1) 5
    refine hK.out _ _ (six_alloc (Nat.le_refl _) hHeld _) (fun hHeld => ?_)
    clear hK K
    refine wpAnyH_ready (rs := [4, 8]) (by kernel_rfl) (by simp) (AllReadyH.cons (o := { dst := some 8, op := _, type := _, pos := _, after := _, guard := _ }) rfl (fun K hK => ?_) (AllReadyH.cons (o := { dst := some 12, op := _, type := _, pos := _, after := _, guard := _ }) rfl (fun K hK => ?_) AllReadyH.nil))
    · have hq := conv_at _ _ _ q
      go_simp
      clear hq
      refine hK.out _ _ hHeld (fun hHeld => ?_)
      clear hK K
      refine wpAnyH_ready (rs := [8]) (by kernel_rfl) (by simp) (AllReadyH.cons (o := { dst := some 12, op := _, type := _, pos := _, after := _, guard := _ }) rfl (fun K hK => ?_) AllReadyH.nil)
      go_simp
      refine (h1.out _).mono ?_
      rintro e wc1 ⟨rfl, hbw⟩
      refine hK.out _ _ (six_kept (Nat.le_refl _) hbw hHeld) (fun hHeld => ?_)
      clear hK K
      refine wpAnyH_take (i := 9) (oi := { dst := some 13, op := _, type := _, pos := _, after := _, guard := _ }) rfl (by kernel_rfl) (by kernel_rfl) (by kernel_rfl) (fun _ _ _ h => h) (Or.inl ⟨by rfl, fun w _ => by have hss := @run_string_add_sum Tryz.prog w (strOfNums [1]) (v1) n1; go_simp; rfl⟩) hHeld ?_
      simp only [Act.put, List.setIfInBounds_toArray, List.set_cons_zero, List.set_cons_succ]
      refine wpAnyH_ready (rs := [13]) (by kernel_rfl) (by simp) (AllReadyH.cons (o := { dst := some 17, op := _, type := _, pos := _, after := _, guard := _ }) rfl (fun K hK => ?_) AllReadyH.nil)
      go_simp
      refine (h2.out _).mono ?_
      rintro e wc2 ⟨rfl, hbw⟩
      refine hK.out _ _ (six_kept (Nat.le_refl _) hbw hHeld) (fun hHeld => ?_)
      clear hK K
      refine wpAnyH_take (i := 14) (oi := { dst := some 18, op := _, type := _, pos := _, after := _, guard := _ }) rfl (by kernel_rfl) (by kernel_rfl) (by kernel_rfl) (fun _ _ _ h => h) (Or.inl ⟨by rfl, fun w _ => by have hss := @run_string_add_sum Tryz.prog w (strOfNums [1] ++ v1) (v2) n2; go_simp; rfl⟩) hHeld ?_
      simp only [Act.put, List.setIfInBounds_toArray, List.set_cons_zero, List.set_cons_succ]
      refine wpAnyH_ready (rs := [18]) (by kernel_rfl) (by simp) (AllReadyH.cons (o := { dst := some 22, op := _, type := _, pos := _, after := _, guard := _ }) rfl (fun K hK => ?_) AllReadyH.nil)
      go_simp
      refine (h3.out _).mono ?_
      rintro e wc3 ⟨rfl, hbw⟩
      refine hK.out _ _ (six_kept (Nat.le_refl _) hbw hHeld) (fun hHeld => ?_)
      clear hK K
      refine wpAnyH_take (i := 19) (oi := { dst := some 23, op := _, type := _, pos := _, after := _, guard := _ }) rfl (by kernel_rfl) (by kernel_rfl) (by kernel_rfl) (fun _ _ _ h => h) (Or.inl ⟨by rfl, fun w _ => by have hss := @run_string_add_sum Tryz.prog w (strOfNums [1] ++ v1 ++ v2) (v3) n3; go_simp; rfl⟩) hHeld ?_
      simp only [Act.put, List.setIfInBounds_toArray, List.set_cons_zero, List.set_cons_succ]
      refine wpAnyH_ready (rs := [22]) (by kernel_rfl) (by simp) (AllReadyH.cons (o := { dst := some 26, op := _, type := _, pos := _, after := _, guard := _ }) rfl (fun K hK => ?_) AllReadyH.nil)
      go_simp
      refine (h4.out _).mono ?_
      rintro e wc4 ⟨rfl, hbw⟩
      refine hK.out _ _ (six_kept (Nat.le_refl _) hbw hHeld) (fun hHeld => ?_)
      clear hK K
      refine wpAnyH_take (i := 23) (oi := { dst := some 27, op := _, type := _, pos := _, after := _, guard := _ }) rfl (by kernel_rfl) (by kernel_rfl) (by kernel_rfl) (fun _ _ _ h => h) (Or.inl ⟨by rfl, fun w _ => by have hss := @run_string_add_sum Tryz.prog w (strOfNums [1] ++ v1 ++ v2 ++ v3) (v4) n4; go_simp; rfl⟩) hHeld ?_
      simp only [Act.put, List.setIfInBounds_toArray, List.set_cons_zero, List.set_cons_succ]
      refine wpAnyH_ready (rs := [24]) (by kernel_rfl) (by simp) (AllReadyH.cons (o := { dst := some 3, op := _, type := _, pos := _, after := _, guard := _ }) rfl (fun K hK => ?_) AllReadyH.nil)
      go_simp
      refine hK.out _ _ hHeld (fun hHeld => ?_)
      clear hK K
      refine wpAnyH_done (by kernel_rfl) ?_ _
      obtain ⟨hBz, z0, z1, z2, z3, z4, z5⟩ := hHeld
      have hss := fun W => @run_string_add_sum Tryz.prog W (strOfNums [1] ++ v1 ++ v2 ++ v3 ++ v4) v5 n5
      go_wp2_with ((go_at_call 73; refine (h5.out _).mono ?_; rintro e w3 ⟨rfl, hb3⟩))
      go_ret
      exact ⟨rfl, hBz.trans (hb3.mono hBz.size)⟩
    · go_simp
      refine (h1.out _).mono ?_
      rintro e wc1 ⟨rfl, hbw⟩
      have q := (hbw.cell (block_lt_of_cell q)).trans q
      refine hK.out _ _ (six_kept (Nat.le_refl _) hbw hHeld) (fun hHeld => ?_)
      clear hK K
      refine wpAnyH_ready (rs := [4, 13]) (by kernel_rfl) (by simp) (AllReadyH.cons (o := { dst := some 8, op := _, type := _, pos := _, after := _, guard := _ }) rfl (fun K hK => ?_) (AllReadyH.cons (o := { dst := some 17, op := _, type := _, pos := _, after := _, guard := _ }) rfl (fun K hK => ?_) AllReadyH.nil))
      · have hq := conv_at _ _ _ q
        go_simp
        clear hq
        refine hK.out _ _ hHeld (fun hHeld => ?_)
        clear hK K
        refine wpAnyH_take (i := 9) (oi := { dst := some 13, op := _, type := _, pos := _, after := _, guard := _ }) rfl (by kernel_rfl) (by kernel_rfl) (by kernel_rfl) (fun _ _ _ h => h) (Or.inl ⟨by rfl, fun w _ => by have hss := @run_string_add_sum Tryz.prog w (strOfNums [1]) (v1) n1; go_simp; rfl⟩) hHeld ?_
        simp only [Act.put, List.setIfInBounds_toArray, List.set_cons_zero, List.set_cons_succ]
        refine wpAnyH_ready (rs := [13]) (by kernel_rfl) (by simp) (AllReadyH.cons (o := { dst := some 17, op := _, type := _, pos := _, after := _, guard := _ }) rfl (fun K hK => ?_) AllReadyH.nil)
        go_simp
        refine (h2.out _).mono ?_
        rintro e wc2 ⟨rfl, hbw⟩
        refine hK.out _ _ (six_kept (Nat.le_refl _) hbw hHeld) (fun hHeld => ?_)
        clear hK K
        refine wpAnyH_take (i := 14) (oi := { dst := some 18, op := _, type := _, pos := _, after := _, guard := _ }) rfl (by kernel_rfl) (by kernel_rfl) (by kernel_rfl) (fun _ _ _ h => h) (Or.inl ⟨by rfl, fun w _ => by have hss := @run_string_add_sum Tryz.prog w (strOfNums [1] ++ v1) (v2) n2; go_simp; rfl⟩) hHeld ?_
        simp only [Act.put, List.setIfInBounds_toArray, List.set_cons_zero, List.set_cons_succ]
        refine wpAnyH_ready (rs := [18]) (by kernel_rfl) (by simp) (AllReadyH.cons (o := { dst := some 22, op := _, type := _, pos := _, after := _, guard := _ }) rfl (fun K hK => ?_) AllReadyH.nil)
        go_simp
        refine (h3.out _).mono ?_
        rintro e wc3 ⟨rfl, hbw⟩
        refine hK.out _ _ (six_kept (Nat.le_refl _) hbw hHeld) (fun hHeld => ?_)
        clear hK K
        refine wpAnyH_take (i := 19) (oi := { dst := some 23, op := _, type := _, pos := _, after := _, guard := _ }) rfl (by kernel_rfl) (by kernel_rfl) (by kernel_rfl) (fun _ _ _ h => h) (Or.inl ⟨by rfl, fun w _ => by have hss := @run_string_add_sum Tryz.prog w (strOfNums [1] ++ v1 ++ v2) (v3) n3; go_simp; rfl⟩) hHeld ?_
        simp only [Act.put, List.setIfInBounds_toArray, List.set_cons_zero, List.set_cons_succ]
        refine wpAnyH_ready (rs := [22]) (by kernel_rfl) (by simp) (AllReadyH.cons (o := { dst := some 26, op := _, type := _, pos := _, after := _, guard := _ }) rfl (fun K hK => ?_) AllReadyH.nil)
        go_simp
        refine (h4.out _).mono ?_
        rintro e wc4 ⟨rfl, hbw⟩
        refine hK.out _ _ (six_kept (Nat.le_refl _) hbw hHeld) (fun hHeld => ?_)
        clear hK K
        refine wpAnyH_take (i := 23) (oi := { dst := some 27, op := _, type := _, pos := _, after := _, guard := _ }) rfl (by kernel_rfl) (by kernel_rfl) (by kernel_rfl) (fun _ _ _ h => h) (Or.inl ⟨by rfl, fun w _ => by have hss := @run_string_add_sum Tryz.prog w (strOfNums [1] ++ v1 ++ v2 ++ v3) (v4) n4; go_simp; rfl⟩) hHeld ?_
        simp only [Act.put, List.setIfInBounds_toArray, List.set_cons_zero, List.set_cons_succ]
        refine wpAnyH_ready (rs := [24]) (by kernel_rfl) (by simp) (AllReadyH.cons (o := { dst := some 3, op := _, type := _, pos := _, after := _, guard := _ }) rfl (fun K hK => ?_) AllReadyH.nil)
        go_simp
        refine hK.out _ _ hHeld (fun hHeld => ?_)
        clear hK K
        refine wpAnyH_done (by kernel_rfl) ?_ _
        obtain ⟨hBz, z0, z1, z2, z3, z4, z5⟩ := hHeld
        have hss := fun W => @run_string_add_sum Tryz.prog W (strOfNums [1] ++ v1 ++ v2 ++ v3 ++ v4) v5 n5
        go_wp2_with ((go_at_call 73; refine (h5.out _).mono ?_; rintro e w3 ⟨rfl, hb3⟩))
        go_ret
        exact ⟨rfl, hBz.trans (hb3.mono hBz.size)⟩
      · go_simp
        refine (h2.out _).mono ?_
        rintro e wc2 ⟨rfl, hbw⟩
        have q := (hbw.cell (block_lt_of_cell q)).trans q
        refine hK.out _ _ (six_kept (Nat.le_refl _) hbw hHeld) (fun hHeld => ?_)
        clear hK K
        refine wpAnyH_ready (rs := [4, 18]) (by kernel_rfl) (by simp) (AllReadyH.cons (o := { dst := some 8, op := _, type := _, pos := _, after := _, guard := _ }) rfl (fun K hK => ?_) (AllReadyH.cons (o := { dst := some 22, op := _, type := _, pos := _, after := _, guard := _ }) rfl (fun K hK => ?_) AllReadyH.nil))
        · have hq := conv_at _ _ _ q
          go_simp
          clear hq
          refine hK.out _ _ hHeld (fun hHeld => ?_)
          clear hK K
          refine wpAnyH_take (i := 9) (oi := { dst := some 13, op := _, type := _, pos := _, after := _, guard := _ }) rfl (by kernel_rfl) (by kernel_rfl) (by kernel_rfl) (fun _ _ _ h => h) (Or.inl ⟨by rfl, fun w _ => by have hss := @run_string_add_sum Tryz.prog w (strOfNums [1]) (v1) n1; go_simp; rfl⟩) hHeld ?_
          simp only [Act.put, List.setIfInBounds_toArray, List.set_cons_zero, List.set_cons_succ]
          refine wpAnyH_take (i := 14) (oi := { dst := some 18, op := _, type := _, pos := _, after := _, guard := _ }) rfl (by kernel_rfl) (by kernel_rfl) (by kernel_rfl) (fun _ _ _ h => h) (Or.inl ⟨by rfl, fun w _ => by have hss := @run_string_add_sum Tryz.prog w (strOfNums [1] ++ v1) (v2) n2; go_simp; rfl⟩) hHeld ?_
          simp only [Act.put, List.setIfInBounds_toArray, List.set_cons_zero, List.set_cons_succ]
          refine wpAnyH_ready (rs := [18]) (by kernel_rfl) (by simp) (AllReadyH.cons (o := { dst := some 22, op := _, type := _, pos := _, after := _, guard := _ }) rfl (fun K hK => ?_) AllReadyH.nil)
          go_simp
          refine (h3.out _).mono ?_
          rintro e wc3 ⟨rfl, hbw⟩
          refine hK.out _ _ (six_kept (Nat.le_refl _) hbw hHeld) (fun hHeld => ?_)
          clear hK K
          refine wpAnyH_take (i := 19) (oi := { dst := some 23, op := _, type := _, pos := _, after := _, guard := _ }) rfl (by kernel_rfl) (by kernel_rfl) (by kernel_rfl) (fun _ _ _ h => h) (Or.inl ⟨by rfl, fun w _ => by have hss := @run_string_add_sum Tryz.prog w (strOfNums [1] ++ v1 ++ v2) (v3) n3; go_simp; rfl⟩) hHeld ?_
          simp only [Act.put, List.setIfInBounds_toArray, List.set_cons_zero, List.set_cons_succ]
          refine wpAnyH_ready (rs := [22]) (by kernel_rfl) (by simp) (AllReadyH.cons (o := { dst := some 26, op := _, type := _, pos := _, after := _, guard := _ }) rfl (fun K hK => ?_) AllReadyH.nil)
          go_simp
          refine (h4.out _).mono ?_
          rintro e wc4 ⟨rfl, hbw⟩
          refine hK.out _ _ (six_kept (Nat.le_refl _) hbw hHeld) (fun hHeld => ?_)
          clear hK K
          refine wpAnyH_take (i := 23) (oi := { dst := some 27, op := _, type := _, pos := _, after := _, guard := _ }) rfl (by kernel_rfl) (by kernel_rfl) (by kernel_rfl) (fun _ _ _ h => h) (Or.inl ⟨by rfl, fun w _ => by have hss := @run_string_add_sum Tryz.prog w (strOfNums [1] ++ v1 ++ v2 ++ v3) (v4) n4; go_simp; rfl⟩) hHeld ?_
          simp only [Act.put, List.setIfInBounds_toArray, List.set_cons_zero, List.set_cons_succ]
          refine wpAnyH_ready (rs := [24]) (by kernel_rfl) (by simp) (AllReadyH.cons (o := { dst := some 3, op := _, type := _, pos := _, after := _, guard := _ }) rfl (fun K hK => ?_) AllReadyH.nil)
          go_simp
          refine hK.out _ _ hHeld (fun hHeld => ?_)
          clear hK K
          refine wpAnyH_done (by kernel_rfl) ?_ _
          obtain ⟨hBz, z0, z1, z2, z3, z4, z5⟩ := hHeld
          have hss := fun W => @run_string_add_sum Tryz.prog W (strOfNums [1] ++ v1 ++ v2 ++ v3 ++ v4) v5 n5
          go_wp2_with ((go_at_call 73; refine (h5.out _).mono ?_; rintro e w3 ⟨rfl, hb3⟩))
          go_ret
          exact ⟨rfl, hBz.trans (hb3.mono hBz.size)⟩
        · go_simp
          refine (h3.out _).mono ?_
          rintro e wc3 ⟨rfl, hbw⟩
          have q := (hbw.cell (block_lt_of_cell q)).trans q
          refine hK.out _ _ (six_kept (Nat.le_refl _) hbw hHeld) (fun hHeld => ?_)
          clear hK K
          refine wpAnyH_ready (rs := [4, 22]) (by kernel_rfl) (by simp) (AllReadyH.cons (o := { dst := some 8, op := _, type := _, pos := _, after := _, guard := _ }) rfl (fun K hK => ?_) (AllReadyH.cons (o := { dst := some 26, op := _, type := _, pos := _, after := _, guard := _ }) rfl (fun K hK => ?_) AllReadyH.nil))
          · have hq := conv_at _ _ _ q
            go_simp
            clear hq
            refine hK.out _ _ hHeld (fun hHeld => ?_)
            clear hK K
            refine wpAnyH_take (i := 9) (oi := { dst := some 13, op := _, type := _, pos := _, after := _, guard := _ }) rfl (by kernel_rfl) (by kernel_rfl) (by kernel_rfl) (fun _ _ _ h => h) (Or.inl ⟨by rfl, fun w _ => by have hss := @run_string_add_sum Tryz.prog w (strOfNums [1]) (v1) n1; go_simp; rfl⟩) hHeld ?_
            simp only [Act.put, List.setIfInBounds_toArray, List.set_cons_zero, List.set_cons_succ]
            refine wpAnyH_take (i := 14) (oi := { dst := some 18, op := _, type := _, pos := _, after := _, guard := _ }) rfl (by kernel_rfl) (by kernel_rfl) (by kernel_rfl) (fun _ _ _ h => h) (Or.inl ⟨by rfl, fun w _ => by have hss := @run_string_add_sum Tryz.prog w (strOfNums [1] ++ v1) (v2) n2; go_simp; rfl⟩) hHeld ?_
            simp only [Act.put, List.setIfInBounds_toArray, List.set_cons_zero, List.set_cons_succ]
            refine wpAnyH_take (i := 19) (oi := { dst := some 23, op := _, type := _, pos := _, after := _, guard := _ }) rfl (by kernel_rfl) (by kernel_rfl) (by kernel_rfl) (fun _ _ _ h => h) (Or.inl ⟨by rfl, fun w _ => by have hss := @run_string_add_sum Tryz.prog w (strOfNums [1] ++ v1 ++ v2) (v3) n3; go_simp; rfl⟩) hHeld ?_
            simp only [Act.put, List.setIfInBounds_toArray, List.set_cons_zero, List.set_cons_succ]
            refine wpAnyH_ready (rs := [22]) (by kernel_rfl) (by simp) (AllReadyH.cons (o := { dst := some 26, op := _, type := _, pos := _, after := _, guard := _ }) rfl (fun K hK => ?_) AllReadyH.nil)
            go_simp
            refine (h4.out _).mono ?_
            rintro e wc4 ⟨rfl, hbw⟩
            refine hK.out _ _ (six_kept (Nat.le_refl _) hbw hHeld) (fun hHeld => ?_)
            clear hK K
            refine wpAnyH_take (i := 23) (oi := { dst := some 27, op := _, type := _, pos := _, after := _, guard := _ }) rfl (by kernel_rfl) (by kernel_rfl) (by kernel_rfl) (fun _ _ _ h => h) (Or.inl ⟨by rfl, fun w _ => by have hss := @run_string_add_sum Tryz.prog w (strOfNums [1] ++ v1 ++ v2 ++ v3) (v4) n4; go_simp; rfl⟩) hHeld ?_
            simp only [Act.put, List.setIfInBounds_toArray, List.set_cons_zero, List.set_cons_succ]
            refine wpAnyH_ready (rs := [24]) (by kernel_rfl) (by simp) (AllReadyH.cons (o := { dst := some 3, op := _, type := _, pos := _, after := _, guard := _ }) rfl (fun K hK => ?_) AllReadyH.nil)
            go_simp
            refine hK.out _ _ hHeld (fun hHeld => ?_)
            clear hK K
            refine wpAnyH_done (by kernel_rfl) ?_ _
            obtain ⟨hBz, z0, z1, z2, z3, z4, z5⟩ := hHeld
            have hss := fun W => @run_string_add_sum Tryz.prog W (strOfNums [1] ++ v1 ++ v2 ++ v3 ++ v4) v5 n5
            go_wp2_with ((go_at_call 73; refine (h5.out _).mono ?_; rintro e w3 ⟨rfl, hb3⟩))
            go_ret
            exact ⟨rfl, hBz.trans (hb3.mono hBz.size)⟩
          · go_simp
            refine (h4.out _).mono ?_
            rintro e wc4 ⟨rfl, hbw⟩
            have q := (hbw.cell (block_lt_of_cell q)).trans q
            refine hK.out _ _ (six_kept (Nat.le_refl _) hbw hHeld) (fun hHeld => ?_)
            clear hK K
            refine wpAnyH_ready (rs := [4]) (by kernel_rfl) (by simp) (AllReadyH.cons (o := { dst := some 8, op := _, type := _, pos := _, after := _, guard := _ }) rfl (fun K hK => ?_) AllReadyH.nil)
            have hq := conv_at _ _ _ q
            go_simp
            clear hq
            refine hK.out _ _ hHeld (fun hHeld => ?_)
            clear hK K
            refine wpAnyH_take (i := 9) (oi := { dst := some 13, op := _, type := _, pos := _, after := _, guard := _ }) rfl (by kernel_rfl) (by kernel_rfl) (by kernel_rfl) (fun _ _ _ h => h) (Or.inl ⟨by rfl, fun w _ => by have hss := @run_string_add_sum Tryz.prog w (strOfNums [1]) (v1) n1; go_simp; rfl⟩) hHeld ?_
            simp only [Act.put, List.setIfInBounds_toArray, List.set_cons_zero, List.set_cons_succ]
            refine wpAnyH_take (i := 14) (oi := { dst := some 18, op := _, type := _, pos := _, after := _, guard := _ }) rfl (by kernel_rfl) (by kernel_rfl) (by kernel_rfl) (fun _ _ _ h => h) (Or.inl ⟨by rfl, fun w _ => by have hss := @run_string_add_sum Tryz.prog w (strOfNums [1] ++ v1) (v2) n2; go_simp; rfl⟩) hHeld ?_
            simp only [Act.put, List.setIfInBounds_toArray, List.set_cons_zero, List.set_cons_succ]
            refine wpAnyH_take (i := 19) (oi := { dst := some 23, op := _, type := _, pos := _, after := _, guard := _ }) rfl (by kernel_rfl) (by kernel_rfl) (by kernel_rfl) (fun _ _ _ h => h) (Or.inl ⟨by rfl, fun w _ => by have hss := @run_string_add_sum Tryz.prog w (strOfNums [1] ++ v1 ++ v2) (v3) n3; go_simp; rfl⟩) hHeld ?_
            simp only [Act.put, List.setIfInBounds_toArray, List.set_cons_zero, List.set_cons_succ]
            refine wpAnyH_take (i := 23) (oi := { dst := some 27, op := _, type := _, pos := _, after := _, guard := _ }) rfl (by kernel_rfl) (by kernel_rfl) (by kernel_rfl) (fun _ _ _ h => h) (Or.inl ⟨by rfl, fun w _ => by have hss := @run_string_add_sum Tryz.prog w (strOfNums [1] ++ v1 ++ v2 ++ v3) (v4) n4; go_simp; rfl⟩) hHeld ?_
            simp only [Act.put, List.setIfInBounds_toArray, List.set_cons_zero, List.set_cons_succ]
            refine wpAnyH_ready (rs := [24]) (by kernel_rfl) (by simp) (AllReadyH.cons (o := { dst := some 3, op := _, type := _, pos := _, after := _, guard := _ }) rfl (fun K hK => ?_) AllReadyH.nil)
            go_simp
            refine hK.out _ _ hHeld (fun hHeld => ?_)
            clear hK K
            refine wpAnyH_done (by kernel_rfl) ?_ _
            obtain ⟨hBz, z0, z1, z2, z3, z4, z5⟩ := hHeld
            have hss := fun W => @run_string_add_sum Tryz.prog W (strOfNums [1] ++ v1 ++ v2 ++ v3 ++ v4) v5 n5
            go_wp2_with ((go_at_call 73; refine (h5.out _).mono ?_; rintro e w3 ⟨rfl, hb3⟩))
            go_ret
            exact ⟨rfl, hBz.trans (hb3.mono hBz.size)⟩
  · go_simp
    refine (h1.out _).mono ?_
    rintro e wc1 ⟨rfl, hbw⟩
    refine hK.out _ _ (six_kept (Nat.le_refl _) hbw hHeld) (fun hHeld => ?_)
    clear hK K
    refine wpAnyH_ready (rs := [3, 13]) (by kernel_rfl) (by simp) (AllReadyH.cons (o := { dst := some 7, op := _, type := _, pos := _, after := _, guard := _ }) rfl (fun K hK => ?_) (AllReadyH.cons (o := { dst := some 17, op := _, type := _, pos := _, after := _, guard := _ }) rfl (fun K hK => ?_) AllReadyH.nil))
    · go_simp
      have q := alloc_cell wc1 (.int .u8 1) 5
      refine hK.out _ _ (six_alloc (Nat.le_refl _) hHeld _) (fun hHeld => ?_)
      clear hK K
      refine wpAnyH_ready (rs := [4, 13]) (by kernel_rfl) (by simp) (AllReadyH.cons (o := { dst := some 8, op := _, type := _, pos := _, after := _, guard := _ }) rfl (fun K hK => ?_) (AllReadyH.cons (o := { dst := some 17, op := _, type := _, pos := _, after := _, guard := _ }) rfl (fun K hK => ?_) AllReadyH.nil))
      · have hq := conv_at _ _ _ q
        go_simp
        clear hq
        refine hK.out _ _ hHeld (fun hHeld => ?_)
        clear hK K
        refine wpAnyH_take (i := 9) (oi := { dst := some 13, op := _, type := _, pos := _, after := _, guard := _ }) rfl (by kernel_rfl) (by kernel_rfl) (by kernel_rfl) (fun _ _ _ h => h) (Or.inl ⟨by rfl, fun w _ => by have hss := @run_string_add_sum Tryz.prog w (strOfNums [1]) (v1) n1; go_simp; rfl⟩) hHeld ?_
        simp only [Act.put, List.setIfInBounds_toArray, List.set_cons_zero, List.set_cons_succ]
        refine wpAnyH_ready (rs := [13]) (by kernel_rfl) (by simp) (AllReadyH.cons (o := { dst := some 17, op := _, type := _, pos := _, after := _, guard := _ }) rfl (fun K hK => ?_) AllReadyH.nil)
        go_simp
        refine (h2.out _).mono ?_
        rintro e wc2 ⟨rfl, hbw⟩
        refine hK.out _ _ (six_kept (Nat.le_refl _) hbw hHeld) (fun hHeld => ?_)
        clear hK K
        refine wpAnyH_take (i := 14) (oi := { dst := some 18, op := _, type := _, pos := _, after := _, guard := _ }) rfl (by kernel_rfl) (by kernel_rfl) (by kernel_rfl) (fun _ _ _ h => h) (Or.inl ⟨by rfl, fun w _ => by have hss := @run_string_add_sum Tryz.prog w (strOfNums [1] ++ v1) (v2) n2; go_simp; rfl⟩) hHeld ?_
        simp only [Act.put, List.setIfInBounds_toArray, List.set_cons_zero, List.set_cons_succ]
        refine wpAnyH_ready (rs := [18]) (by kernel_rfl) (by simp) (AllReadyH.cons (o := { dst := some 22, op := _, type := _, pos := _, after := _, guard := _ }) rfl (fun K hK => ?_) AllReadyH.nil)
        go_simp
        refine (h3.out _).mono ?_
        rintro e wc3 ⟨rfl, hbw⟩
        refine hK.out _ _ (six_kept (Nat.le_refl _) hbw hHeld) (fun hHeld => ?_)
        clear hK K
        refine wpAnyH_take (i := 19) (oi := { dst := some 23, op := _, type := _, pos := _, after := _, guard := _ }) rfl (by kernel_rfl) (by kernel_rfl) (by kernel_rfl) (fun _ _ _ h => h) (Or.inl ⟨by rfl, fun w _ => by have hss := @run_string_add_sum Tryz.prog w (strOfNums [1] ++ v1 ++ v2) (v3) n3; go_simp; rfl⟩) hHeld ?_
        simp only [Act.put, List.setIfInBounds_toArray, List.set_cons_zero, List.set_cons_succ]
        refine wpAnyH_ready (rs := [22]) (by kernel_rfl) (by simp) (AllReadyH.cons (o := { dst := some 26, op := _, type := _, pos := _, after := _, guard := _ }) rfl (fun K hK => ?_) AllReadyH.nil)
        go_simp
        refine (h4.out _).mono ?_
        rintro e wc4 ⟨rfl, hbw⟩
        refine hK.out _ _ (six_kept (Nat.le_refl _) hbw hHeld) (fun hHeld => ?_)
        clear hK K
        refine wpAnyH_take (i := 23) (oi := { dst := some 27, op := _, type := _, pos := _, after := _, guard := _ }) rfl (by kernel_rfl) (by kernel_rfl) (by kernel_rfl) (fun _ _ _ h => h) (Or.inl ⟨by rfl, fun w _ => by have hss := @run_string_add_sum Tryz.prog w (strOfNums [1] ++ v1 ++ v2 ++ v3) (v4) n4; go_simp; rfl⟩) hHeld ?_
        simp only [Act.put, List.setIfInBounds_toArray, List.set_cons_zero, List.set_cons_succ]
        refine wpAnyH_ready (rs := [24]) (by kernel_rfl) (by simp) (AllReadyH.cons (o := { dst := some 3, op := _, type := _, pos := _, after := _, guard := _ }) rfl (fun K hK => ?_) AllReadyH.nil)
        go_simp
        refine hK.out _ _ hHeld (fun hHeld => ?_)
        clear hK K
        refine wpAnyH_done (by kernel_rfl) ?_ _
        obtain ⟨hBz, z0, z1, z2, z3, z4, z5⟩ := hHeld
        have hss := fun W => @run_string_add_sum Tryz.prog W (strOfNums [1] ++ v1 ++ v2 ++ v3 ++ v4) v5 n5
        go_wp2_with ((go_at_call 73; refine (h5.out _).mono ?_; rintro e w3 ⟨rfl, hb3⟩))
        go_ret
        exact ⟨rfl, hBz.trans (hb3.mono hBz.size)⟩
      · go_simp
        refine (h2.out _).mono ?_
        rintro e wc2 ⟨rfl, hbw⟩
        have q := (hbw.cell (block_lt_of_cell q)).trans q
        refine hK.out _ _ (six_kept (Nat.le_refl _) hbw hHeld) (fun hHeld => ?_)
        clear hK K
        refine wpAnyH_ready (rs := [4, 18]) (by kernel_rfl) (by simp) (AllReadyH.cons (o := { dst := some 8, op := _, type := _, pos := _, after := _, guard := _ }) rfl (fun K hK => ?_) (AllReadyH.cons (o := { dst := some 22, op := _, type := _, pos := _, after := _, guard := _ }) rfl (fun K hK => ?_) AllReadyH.nil))
        · have hq := conv_at _ _ _ q
          go_simp
          clear hq
          refine hK.out _ _ hHeld (fun hHeld => ?_)
          clear hK K
          refine wpAnyH_take (i := 9) (oi := { dst := some 13, op := _, type := _, pos := _, after := _, guard := _ }) rfl (by kernel_rfl) (by kernel_rfl) (by kernel_rfl) (fun _ _ _ h => h) (Or.inl ⟨by rfl, fun w _ => by have hss := @run_string_add_sum Tryz.prog w (strOfNums [1]) (v1) n1; go_simp; rfl⟩) hHeld ?_
          simp only [Act.put, List.setIfInBounds_toArray, List.set_cons_zero, List.set_cons_succ]
          refine wpAnyH_take (i := 14) (oi := { dst := some 18, op := _, type := _, pos := _, after := _, guard := _ }) rfl (by kernel_rfl) (by kernel_rfl) (by kernel_rfl) (fun _ _ _ h => h) (Or.inl ⟨by rfl, fun w _ => by have hss := @run_string_add_sum Tryz.prog w (strOfNums [1] ++ v1) (v2) n2; go_simp; rfl⟩) hHeld ?_
          simp only [Act.put, List.setIfInBounds_toArray, List.set_cons_zero, List.set_cons_succ]
          refine wpAnyH_ready (rs := [18]) (by kernel_rfl) (by simp) (AllReadyH.cons (o := { dst := some 22, op := _, type := _, pos := _, after := _, guard := _ }) rfl (fun K hK => ?_) AllReadyH.nil)
          go_simp
          refine (h3.out _).mono ?_
          rintro e wc3 ⟨rfl, hbw⟩
          refine hK.out _ _ (six_kept (Nat.le_refl _) hbw hHeld) (fun hHeld => ?_)
          clear hK K
          refine wpAnyH_take (i := 19) (oi := { dst := some 23, op := _, type := _, pos := _, after := _, guard := _ }) rfl (by kernel_rfl) (by kernel_rfl) (by kernel_rfl) (fun _ _ _ h => h) (Or.inl ⟨by rfl, fun w _ => by have hss := @run_string_add_sum Tryz.prog w (strOfNums [1] ++ v1 ++ v2) (v3) n3; go_simp; rfl⟩) hHeld ?_
          simp only [Act.put, List.setIfInBounds_toArray, List.set_cons_zero, List.set_cons_succ]
          refine wpAnyH_ready (rs := [22]) (by kernel_rfl) (by simp) (AllReadyH.cons (o := { dst := some 26, op := _, type := _, pos := _, after := _, guard := _ }) rfl (fun K hK => ?_) AllReadyH.nil)
          go_simp
          refine (h4.out _).mono ?_
          rintro e wc4 ⟨rfl, hbw⟩
          refine hK.out _ _ (six_kept (Nat.le_refl _) hbw hHeld) (fun hHeld => ?_)
          clear hK K
          refine wpAnyH_take (i := 23) (oi := { dst := some 27, op := _, type := _, pos := _, after := _, guard := _ }) rfl (by kernel_rfl) (by kernel_rfl) (by kernel_rfl) (fun _ _ _ h => h) (Or.inl ⟨by rfl, fun w _ => by have hss := @run_string_add_sum Tryz.prog w (strOfNums [1] ++ v1 ++ v2 ++ v3) (v4) n4; go_simp; rfl⟩) hHeld ?_
          simp only [Act.put, List.setIfInBounds_toArray, List.set_cons_zero, List.set_cons_succ]
          refine wpAnyH_ready (rs := [24]) (by kernel_rfl) (by simp) (AllReadyH.cons (o := { dst := some 3, op := _, type := _, pos := _, after := _, guard := _ }) rfl (fun K hK => ?_) AllReadyH.nil)
          go_simp
          refine hK.out _ _ hHeld (fun hHeld => ?_)
          clear hK K
          refine wpAnyH_done (by kernel_rfl) ?_ _
          obtain ⟨hBz, z0, z1, z2, z3, z4, z5⟩ := hHeld
          have hss := fun W => @run_string_add_sum Tryz.prog W (strOfNums [1] ++ v1 ++ v2 ++ v3 ++ v4) v5 n5
          go_wp2_with ((go_at_call 73; refine (h5.out _).mono ?_; rintro e w3 ⟨rfl, hb3⟩))
          go_ret
          exact ⟨rfl, hBz.trans (hb3.mono hBz.size)⟩
        · go_simp
          refine (h3.out _).mono ?_
          rintro e wc3 ⟨rfl, hbw⟩
          have q := (hbw.cell (block_lt_of_cell q)).trans q
          refine hK.out _ _ (six_kept (Nat.le_refl _) hbw hHeld) (fun hHeld => ?_)
          clear hK K
          refine wpAnyH_ready (rs := [4, 22]) (by kernel_rfl) (by simp) (AllReadyH.cons (o := { dst := some 8, op := _, type := _, pos := _, after := _, guard := _ }) rfl (fun K hK => ?_) (AllReadyH.cons (o := { dst := some 26, op := _, type := _, pos := _, after := _, guard := _ }) rfl (fun K hK => ?_) AllReadyH.nil))
          · have hq := conv_at _ _ _ q
            go_simp
            clear hq
            refine hK.out _ _ hHeld (fun hHeld => ?_)
            clear hK K
            refine wpAnyH_take (i := 9) (oi := { dst := some 13, op := _, type := _, pos := _, after := _, guard := _ }) rfl (by kernel_rfl) (by kernel_rfl) (by kernel_rfl) (fun _ _ _ h => h) (Or.inl ⟨by rfl, fun w _ => by have hss := @run_string_add_sum Tryz.prog w (strOfNums [1]) (v1) n1; go_simp; rfl⟩) hHeld ?_
            simp only [Act.put, List.setIfInBounds_toArray, List.set_cons_zero, List.set_cons_succ]
            refine wpAnyH_take (i := 14) (oi := { dst := some 18, op := _, type := _, pos := _, after := _, guard := _ }) rfl (by kernel_rfl) (by kernel_rfl) (by kernel_rfl) (fun _ _ _ h => h) (Or.inl ⟨by rfl, fun w _ => by have hss := @run_string_add_sum Tryz.prog w (strOfNums [1] ++ v1) (v2) n2; go_simp; rfl⟩) hHeld ?_
            simp only [Act.put, List.setIfInBounds_toArray, List.set_cons_zero, List.set_cons_succ]
            refine wpAnyH_take (i := 19) (oi := { dst := some 23, op := _, type := _, pos := _, after := _, guard := _ }) rfl (by kernel_rfl) (by kernel_rfl) (by kernel_rfl) (fun _ _ _ h => h) (Or.inl ⟨by rfl, fun w _ => by have hss := @run_string_add_sum Tryz.prog w (strOfNums [1] ++ v1 ++ v2) (v3) n3; go_simp; rfl⟩) hHeld ?_
            simp only [Act.put, List.setIfInBounds_toArray, List.set_cons_zero, List.set_cons_succ]
            refine wpAnyH_ready (rs := [22]) (by kernel_rfl) (by simp) (AllReadyH.cons (o := { dst := some 26, op := _, type := _, pos := _, after := _, guard := _ }) rfl (fun K hK => ?_) AllReadyH.nil)
            go_simp
            refine (h4.out _).mono ?_
            rintro e wc4 ⟨rfl, hbw⟩
            refine hK.out _ _ (six_kept (Nat.le_refl _) hbw hHeld) (fun hHeld => ?_)
            clear hK K
            refine wpAnyH_take (i := 23) (oi := { dst := some 27, op := _, type := _, pos := _, after := _, guard := _ }) rfl (by kernel_rfl) (by kernel_rfl) (by kernel_rfl) (fun _ _ _ h => h) (Or.inl ⟨by rfl, fun w _ => by have hss := @run_string_add_sum Tryz.prog w (strOfNums [1] ++ v1 ++ v2 ++ v3) (v4) n4; go_simp; rfl⟩) hHeld ?_
            simp only [Act.put, List.setIfInBounds_toArray, List.set_cons_zero, List.set_cons_succ]
            refine wpAnyH_ready (rs := [24]) (by kernel_rfl) (by simp) (AllReadyH.cons (o := { dst := some 3, op := _, type := _, pos := _, after := _, guard := _ }) rfl (fun K hK => ?_) AllReadyH.nil)
            go_simp
            refine hK.out _ _ hHeld (fun hHeld => ?_)
            clear hK K
            refine wpAnyH_done (by kernel_rfl) ?_ _
            obtain ⟨hBz, z0, z1, z2, z3, z4, z5⟩ := hHeld
            have hss := fun W => @run_string_add_sum Tryz.prog W (strOfNums [1] ++ v1 ++ v2 ++ v3 ++ v4) v5 n5
            go_wp2_with ((go_at_call 73; refine (h5.out _).mono ?_; rintro e w3 ⟨rfl, hb3⟩))
            go_ret
            exact ⟨rfl, hBz.trans (hb3.mono hBz.size)⟩
          · go_simp
            refine (h4.out _).mono ?_
            rintro e wc4 ⟨rfl, hbw⟩
            have q := (hbw.cell (block_lt_of_cell q)).trans q
            refine hK.out _ _ (six_kept (Nat.le_refl _) hbw hHeld) (fun hHeld => ?_)
            clear hK K
            refine wpAnyH_ready (rs := [4]) (by kernel_rfl) (by simp) (AllReadyH.cons (o := { dst := some 8, op := _, type := _, pos := _, after := _, guard := _ }) rfl (fun K hK => ?_) AllReadyH.nil)
            have hq := conv_at _ _ _ q
            go_simp
            clear hq
            refine hK.out _ _ hHeld (fun hHeld => ?_)
            clear hK K
            refine wpAnyH_take (i := 9) (oi := { dst := some 13, op := _, type := _, pos := _, after := _, guard := _ }) rfl (by kernel_rfl) (by kernel_rfl) (by kernel_rfl) (fun _ _ _ h => h) (Or.inl ⟨by rfl, fun w _ => by have hss := @run_string_add_sum Tryz.prog w (strOfNums [1]) (v1) n1; go_simp; rfl⟩) hHeld ?_
            simp only [Act.put, List.setIfInBounds_toArray, List.set_cons_zero, List.set_cons_succ]
            refine wpAnyH_take (i := 14) (oi := { dst := some 18, op := _, type := _, pos := _, after := _, guard := _ }) rfl (by kernel_rfl) (by kernel_rfl) (by kernel_rfl) (fun _ _ _ h => h) (Or.inl ⟨by rfl, fun w _ => by have hss := @run_string_add_sum Tryz.prog w (strOfNums [1] ++ v1) (v2) n2; go_simp; rfl⟩) hHeld ?_
            simp only [Act.put, List.setIfInBounds_toArray, List.set_cons_zero, List.set_cons_succ]
            refine wpAnyH_take (i := 19) (oi := { dst := some 23, op := _, type := _, pos := _, after := _, guard := _ }) rfl (by kernel_rfl) (by kernel_rfl) (by kernel_rfl) (fun _ _ _ h => h) (Or.inl ⟨by rfl, fun w _ => by have hss := @run_string_add_sum Tryz.prog w (strOfNums [1] ++ v1 ++ v2) (v3) n3; go_simp; rfl⟩) hHeld ?_
            simp only [Act.put, List.setIfInBounds_toArray, List.set_cons_zero, List.set_cons_succ]
            refine wpAnyH_take (i := 23) (oi := { dst := some 27, op := _, type := _, pos := _, after := _, guard := _ }) rfl (by kernel_rfl) (by kernel_rfl) (by kernel_rfl) (fun _ _ _ h => h) (Or.inl ⟨by rfl, fun w _ => by have hss := @run_string_add_sum Tryz.prog w (strOfNums [1] ++ v1 ++ v2 ++ v3) (v4) n4; go_simp; rfl⟩) hHeld ?_
            simp only [Act.put, List.setIfInBounds_toArray, List.set_cons_zero, List.set_cons_succ]
            refine wpAnyH_ready (rs := [24]) (by kernel_rfl) (by simp) (AllReadyH.cons (o := { dst := some 3, op := _, type := _, pos := _, after := _, guard := _ }) rfl (fun K hK => ?_) AllReadyH.nil)
            go_simp
            refine hK.out _ _ hHeld (fun hHeld => ?_)
            clear hK K
            refine wpAnyH_done (by kernel_rfl) ?_ _
            obtain ⟨hBz, z0, z1, z2, z3, z4, z5⟩ := hHeld
            have hss := fun W => @run_string_add_sum Tryz.prog W (strOfNums [1] ++ v1 ++ v2 ++ v3 ++ v4) v5 n5
            go_wp2_with ((go_at_call 73; refine (h5.out _).mono ?_; rintro e w3 ⟨rfl, hb3⟩))
            go_ret
            exact ⟨rfl, hBz.trans (hb3.mono hBz.size)⟩
    · go_simp
      refine (h2.out _).mono ?_
      rintro e wc2 ⟨rfl, hbw⟩
      refine hK.out _ _ (six_kept (Nat.le_refl _) hbw hHeld) (fun hHeld => ?_)
      clear hK K
      refine wpAnyH_ready (rs := [3, 18]) (by kernel_rfl) (by simp) (AllReadyH.cons (o := { dst := some 7, op := _, type := _, pos := _, after := _, guard := _ }) rfl (fun K hK => ?_) (AllReadyH.cons (o := { dst := some 22, op := _, type := _, pos := _, after := _, guard := _ }) rfl (fun K hK => ?_) AllReadyH.nil))
      · go_simp
        have q := alloc_cell wc2 (.int .u8 1) 5
        refine hK.out _ _ (six_alloc (Nat.le_refl _) hHeld _) (fun hHeld => ?_)
        clear hK K
        refine wpAnyH_ready (rs := [4, 18]) (by kernel_rfl) (by simp) (AllReadyH.cons (o := { dst := some 8, op := _, type := _, pos := _, after := _, guard := _ }) rfl (fun K hK => ?_) (AllReadyH.cons (o := { dst := some 22, op := _, type := _, pos := _, after := _, guard := _ }) rfl (fun K hK => ?_) AllReadyH.nil))
        · have hq := conv_at _ _ _ q
          go_simp
          clear hq
          refine hK.out _ _ hHeld (fun hHeld => ?_)
          clear hK K
          refine wpAnyH_take (i := 9) (oi := { dst := some 13, op := _, type := _, pos := _, after := _, guard := _ }) rfl (by kernel_rfl) (by kernel_rfl) (by kernel_rfl) (fun _ _ _ h => h) (Or.inl ⟨by rfl, fun w _ => by have hss := @run_string_add_sum Tryz.prog w (strOfNums [1]) (v1) n1; go_simp; rfl⟩) hHeld ?_
          simp only [Act.put, List.setIfInBounds_toArray, List.set_cons_zero, List.set_cons_succ]
          refine wpAnyH_take (i := 14) (oi := { dst := some 18, op := _, type := _, pos := _, after := _, guard := _ }) rfl (by kernel_rfl) (by kernel_rfl) (by kernel_rfl) (fun _ _ _ h => h) (Or.inl ⟨by rfl, fun w _ => by have hss := @run_string_add_sum Tryz.prog w (strOfNums [1] ++ v1) (v2) n2; go_simp; rfl⟩) hHeld ?_
          simp only [Act.put, List.setIfInBounds_toArray, List.set_cons_zero, List.set_cons_succ]
          refine wpAnyH_ready (rs := [18]) (by kernel_rfl) (by simp) (AllReadyH.cons (o := { dst := some 22, op := _, type := _, pos := _, after := _, guard := _ }) rfl (fun K hK => ?_) AllReadyH.nil)
          go_simp
          refine (h3.out _).mono ?_
          rintro e wc3 ⟨rfl, hbw⟩
          refine hK.out _ _ (six_kept (Nat.le_refl _) hbw hHeld) (fun hHeld => ?_)
          clear hK K
          refine wpAnyH_take (i := 19) (oi := { dst := some 23, op := _, type := _, pos := _, after := _, guard := _ }) rfl (by kernel_rfl) (by kernel_rfl) (by kernel_rfl) (fun _ _ _ h => h) (Or.inl ⟨by rfl, fun w _ => by have hss := @run_string_add_sum Tryz.prog w (strOfNums [1] ++ v1 ++ v2) (v3) n3; go_simp; rfl⟩) hHeld ?_
          simp only [Act.put, List.setIfInBounds_toArray, List.set_cons_zero, List.set_cons_succ]
          refine wpAnyH_ready (rs := [22]) (by kernel_rfl) (by simp) (AllReadyH.cons (o := { dst := some 26, op := _, type := _, pos := _, after := _, guard := _ }) rfl (fun K hK => ?_) AllReadyH.nil)
          go_simp
          refine (h4.out _).mono ?_
          rintro e wc4 ⟨rfl, hbw⟩
          refine hK.out _ _ (six_kept (Nat.le_refl _) hbw hHeld) (fun hHeld => ?_)
          clear hK K
          refine wpAnyH_take (i := 23) (oi := { dst := some 27, op := _, type := _, pos := _, after := _, guard := _ }) rfl (by kernel_rfl) (by kernel_rfl) (by kernel_rfl) (fun _ _ _ h => h) (Or.inl ⟨by rfl, fun w _ => by have hss := @run_string_add_sum Tryz.prog w (strOfNums [1] ++ v1 ++ v2 ++ v3) (v4) n4; go_simp; rfl⟩) hHeld ?_
          simp only [Act.put, List.setIfInBounds_toArray, List.set_cons_zero, List.set_cons_succ]
          refine wpAnyH_ready (rs := [24]) (by kernel_rfl) (by simp) (AllReadyH.cons (o := { dst := some 3, op := _, type := _, pos := _, after := _, guard := _ }) rfl (fun K hK => ?_) AllReadyH.nil)
          go_simp
          refine hK.out _ _ hHeld (fun hHeld => ?_)
          clear hK K
          refine wpAnyH_done (by kernel_rfl) ?_ _
          obtain ⟨hBz, z0, z1, z2, z3, z4, z5⟩ := hHeld
          have hss := fun W => @run_string_add_sum Tryz.prog W (strOfNums [1] ++ v1 ++ v2 ++ v3 ++ v4) v5 n5
          go_wp2_with ((go_at_call 73; refine (h5.out _).mono ?_; rintro e w3 ⟨rfl, hb3⟩))
          go_ret
          exact ⟨rfl, hBz.trans (hb3.mono hBz.size)⟩
        · go_simp
          refine (h3.out _).mono ?_
          rintro e wc3 ⟨rfl, hbw⟩
          have q := (hbw.cell (block_lt_of_cell q)).trans q
          refine hK.out _ _ (six_kept (Nat.le_refl _) hbw hHeld) (fun hHeld => ?_)
          clear hK K
          refine wpAnyH_ready (rs := [4, 22]) (by kernel_rfl) (by simp) (AllReadyH.cons (o := { dst := some 8, op := _, type := _, pos := _, after := _, guard := _ }) rfl (fun K hK => ?_) (AllReadyH.cons (o := { dst := some 26, op := _, type := _, pos := _, after := _, guard := _ }) rfl (fun K hK => ?_) AllReadyH.nil))
          · have hq := conv_at _ _ _ q
            go_simp
            clear hq
            refine hK.out _ _ hHeld (fun hHeld => ?_)
            clear hK K
            refine wpAnyH_take (i := 9) (oi := { dst := some 13, op := _, type := _, pos := _, after := _, guard := _ }) rfl (by kernel_rfl) (by kernel_rfl) (by kernel_rfl) (fun _ _ _ h => h) (Or.inl ⟨by rfl, fun w _ => by have hss := @run_string_add_sum Tryz.prog w (strOfNums [1]) (v1) n1; go_simp; rfl⟩) hHeld ?_
            simp only [Act.put, List.setIfInBounds_toArray, List.set_cons_zero, List.set_cons_succ]
            refine wpAnyH_take (i := 14) (oi := { dst := some 18, op := _, type := _, pos := _, after := _, guard := _ }) rfl (by kernel_rfl) (by kernel_rfl) (by kernel_rfl) (fun _ _ _ h => h) (Or.inl ⟨by rfl, fun w _ => by have hss := @run_string_add_sum Tryz.prog w (strOfNums [1] ++ v1) (v2) n2; go_simp; rfl⟩) hHeld ?_
            simp only [Act.put, List.setIfInBounds_toArray, List.set_cons_zero, List.set_cons_succ]
            refine wpAnyH_take (i := 19) (oi := { dst := some 23, op := _, type := _, pos := _, after := _, guard := _ }) rfl (by kernel_rfl) (by kernel_rfl) (by kernel_rfl) (fun _ _ _ h => h) (Or.inl ⟨by rfl, fun w _ => by have hss := @run_string_add_sum Tryz.prog w (strOfNums [1] ++ v1 ++ v2) (v3) n3; go_simp; rfl⟩) hHeld ?_
            simp only [Act.put, List.setIfInBounds_toArray, List.set_cons_zero, List.set_cons_succ]
            refine wpAnyH_ready (rs := [22]) (by kernel_rfl) (by simp) (AllReadyH.cons (o := { dst := some 26, op := _, type := _, pos := _, after := _, guard := _ }) rfl (fun K hK => ?_) AllReadyH.nil)
            go_simp
            refine (h4.out _).mono ?_
            rintro e wc4 ⟨rfl, hbw⟩
            refine hK.out _ _ (six_kept (Nat.le_refl _) hbw hHeld) (fun hHeld => ?_)
            clear hK K
            refine wpAnyH_take (i := 23) (oi := { dst := some 27, op := _, type := _, pos := _, after := _, guard := _ }) rfl (by kernel_rfl) (by kernel_rfl) (by kernel_rfl) (fun _ _ _ h => h) (Or.inl ⟨by rfl, fun w _ => by have hss := @run_string_add_sum Tryz.prog w (strOfNums [1] ++ v1 ++ v2 ++ v3) (v4) n4; go_simp; rfl⟩) hHeld ?_
            simp only [Act.put, List.setIfInBounds_toArray, List.set_cons_zero, List.set_cons_succ]
            refine wpAnyH_ready (rs := [24]) (by kernel_rfl) (by simp) (AllReadyH.cons (o := { dst := some 3, op := _, type := _, pos := _, after := _, guard := _ }) rfl (fun K hK => ?_) AllReadyH.nil)
            go_simp
            refine hK.out _ _ hHeld (fun hHeld => ?_)
            clear hK K
            refine wpAnyH_done (by kernel_rfl) ?_ _
            obtain ⟨hBz, z0, z1, z2, z3, z4, z5⟩ := hHeld
            have hss := fun W => @run_string_add_sum Tryz.prog W (strOfNums [1] ++ v1 ++ v2 ++ v3 ++ v4) v5 n5
            go_wp2_with ((go_at_call 73; refine (h5.out _).mono ?_; rintro e w3 ⟨rfl, hb3⟩))
            go_ret
            exact ⟨rfl, hBz.trans (hb3.mono hBz.size)⟩
          · go_simp
            refine (h4.out _).mono ?_
            rintro e wc4 ⟨rfl, hbw⟩
            have q := (hbw.cell (block_lt_of_cell q)).trans q
            refine hK.out _ _ (six_kept (Nat.le_refl _) hbw hHeld) (fun hHeld => ?_)
            clear hK K
            refine wpAnyH_ready (rs := [4]) (by kernel_rfl) (by simp) (AllReadyH.cons (o := { dst := some 8, op := _, type := _, pos := _, after := _, guard := _ }) rfl (fun K hK => ?_) AllReadyH.nil)
            have hq := conv_at _ _ _ q
            go_simp
            clear hq
            refine hK.out _ _ hHeld (fun hHeld => ?_)
            clear hK K
            refine wpAnyH_take (i := 9) (oi := { dst := some 13, op := _, type := _, pos := _, after := _, guard := _ }) rfl (by kernel_rfl) (by kernel_rfl) (by kernel_rfl) (fun _ _ _ h => h) (Or.inl ⟨by rfl, fun w _ => by have hss := @run_string_add_sum Tryz.prog w (strOfNums [1]) (v1) n1; go_simp; rfl⟩) hHeld ?_
            simp only [Act.put, List.setIfInBounds_toArray, List.set_cons_zero, List.set_cons_succ]
            refine wpAnyH_take (i := 14) (oi := { dst := some 18, op := _, type := _, pos := _, after := _, guard := _ }) rfl (by kernel_rfl) (by kernel_rfl) (by kernel_rfl) (fun _ _ _ h => h) (Or.inl ⟨by rfl, fun w _ => by have hss := @run_string_add_sum Tryz.prog w (strOfNums [1] ++ v1) (v2) n2; go_simp; rfl⟩) hHeld ?_
            simp only [Act.put, List.setIfInBounds_toArray, List.set_cons_zero, List.set_cons_succ]
            refine wpAnyH_take (i := 19) (oi := { dst := some 23, op := _, type := _, pos := _, after := _, guard := _ }) rfl (by kernel_rfl) (by kernel_rfl) (by kernel_rfl) (fun _ _ _ h => h) (Or.inl ⟨by rfl, fun w _ => by have hss := @run_string_add_sum Tryz.prog w (strOfNums [1] ++ v1 ++ v2) (v3) n3; go_simp; rfl⟩) hHeld ?_
            simp only [Act.put, List.setIfInBounds_toArray, List.set_cons_zero, List.set_cons_succ]
            refine wpAnyH_take (i := 23) (oi := { dst := some 27, op := _, type := _, pos := _, after := _, guard := _ }) rfl (by kernel_rfl) (by kernel_rfl) (by kernel_rfl) (fun _ _ _ h => h) (Or.inl ⟨by rfl, fun w _ => by have hss := @run_string_add_sum Tryz.prog w (strOfNums [1] ++ v1 ++ v2 ++ v3) (v4) n4; go_simp; rfl⟩) hHeld ?_
            simp only [Act.put, List.setIfInBounds_toArray, List.set_cons_zero, List.set_cons_succ]
            refine wpAnyH_ready (rs := [24]) (by kernel_rfl) (by simp) (AllReadyH.cons (o := { dst := some 3, op := _, type := _, pos := _, after := _, guard := _ }) rfl (fun K hK => ?_) AllReadyH.nil)
            go_simp
            refine hK.out _ _ hHeld (fun hHeld => ?_)
            clear hK K
            refine wpAnyH_done (by kernel_rfl) ?_ _
            obtain ⟨hBz, z0, z1, z2, z3, z4, z5⟩ := hHeld
            have hss := fun W => @run_string_add_sum Tryz.prog W (strOfNums [1] ++ v1 ++ v2 ++ v3 ++ v4) v5 n5
            go_wp2_with ((go_at_call 73; refine (h5.out _).mono ?_; rintro e w3 ⟨rfl, hb3⟩))
            go_ret
            exact ⟨rfl, hBz.trans (hb3.mono hBz.size)⟩
      · go_simp
        refine (h3.out _).mono ?_
        rintro e wc3 ⟨rfl, hbw⟩
        refine hK.out _ _ (six_kept (Nat.le_refl _) hbw hHeld) (fun hHeld => ?_)
        clear hK K
        refine wpAnyH_ready (rs := [3, 22]) (by kernel_rfl) (by simp) (AllReadyH.cons (o := { dst := some 7, op := _, type := _, pos := _, after := _, guard := _ }) rfl (fun K hK => ?_) (AllReadyH.cons (o := { dst := some 26, op := _, type := _, pos := _, after := _, guard := _ }) rfl (fun K hK => ?_) AllReadyH.nil))
        · go_simp
          have q := alloc_cell wc3 (.int .u8 1) 5
          refine hK.out _ _ (six_alloc (Nat.le_refl _) hHeld _) (fun hHeld => ?_)
          clear hK K
          refine wpAnyH_ready (rs := [4, 22]) (by kernel_rfl) (by simp) (AllReadyH.cons (o := { dst := some 8, op := _, type := _, pos := _, after := _, guard := _ }) rfl (fun K hK => ?_) (AllReadyH.cons (o := { dst := some 26, op := _, type := _, pos := _, after := _, guard := _ }) rfl (fun K hK => ?_) AllReadyH.nil))
          · have hq := conv_at _ _ _ q
            go_simp
            clear hq
            refine hK.out _ _ hHeld (fun hHeld => ?_)
            clear hK K
            refine wpAnyH_take (i := 9) (oi := { dst := some 13, op := _, type := _, pos := _, after := _, guard := _ }) rfl (by kernel_rfl) (by kernel_rfl) (by kernel_rfl) (fun _ _ _ h => h) (Or.inl ⟨by rfl, fun w _ => by have hss := @run_string_add_sum Tryz.prog w (strOfNums [1]) (v1) n1; go_simp; rfl⟩) hHeld ?_
            simp only [Act.put, List.setIfInBounds_toArray, List.set_cons_zero, List.set_cons_succ]
            refine wpAnyH_take (i := 14) (oi := { dst := some 18, op := _, type := _, pos := _, after := _, guard := _ }) rfl (by kernel_rfl) (by kernel_rfl) (by kernel_rfl) (fun _ _ _ h => h) (Or.inl ⟨by rfl, fun w _ => by have hss := @run_string_add_sum Tryz.prog w (strOfNums [1] ++ v1) (v2) n2; go_simp; rfl⟩) hHeld ?_
            simp only [Act.put, List.setIfInBounds_toArray, List.set_cons_zero, List.set_cons_succ]
            refine wpAnyH_take (i := 19) (oi := { dst := some 23, op := _, type := _, pos := _, after := _, guard := _ }) rfl (by kernel_rfl) (by kernel_rfl) (by kernel_rfl) (fun _ _ _ h => h) (Or.inl ⟨by rfl, fun w _ => by have hss := @run_string_add_sum Tryz.prog w (strOfNums [1] ++ v1 ++ v2) (v3) n3; go_simp; rfl⟩) hHeld ?_
            simp only [Act.put, List.setIfInBounds_toArray, List.set_cons_zero, List.set_cons_succ]
            refine wpAnyH_ready (rs := [22]) (by kernel_rfl) (by simp) (AllReadyH.cons (o := { dst := some 26, op := _, type := _, pos := _, after := _, guard := _ }) rfl (fun K hK => ?_) AllReadyH.nil)
            go_simp
            refine (h4.out _).mono ?_
            rintro e wc4 ⟨rfl, hbw⟩
            refine hK.out _ _ (six_kept (Nat.le_refl _) hbw hHeld) (fun hHeld => ?_)
            clear hK K
            refine wpAnyH_take (i := 23) (oi := { dst := some 27, op := _, type := _, pos := _, after := _, guard := _ }) rfl (by kernel_rfl) (by kernel_rfl) (by kernel_rfl) (fun _ _ _ h => h) (Or.inl ⟨by rfl, fun w _ => by have hss := @run_string_add_sum Tryz.prog w (strOfNums [1] ++ v1 ++ v2 ++ v3) (v4) n4; go_simp; rfl⟩) hHeld ?_
            simp only [Act.put, List.setIfInBounds_toArray, List.set_cons_zero, List.set_cons_succ]
            refine wpAnyH_ready (rs := [24]) (by kernel_rfl) (by simp) (AllReadyH.cons (o := { dst := some 3, op := _, type := _, pos := _, after := _, guard := _ }) rfl (fun K hK => ?_) AllReadyH.nil)
            go_simp
            refine hK.out _ _ hHeld (fun hHeld => ?_)
            clear hK K
            refine wpAnyH_done (by kernel_rfl) ?_ _
            obtain ⟨hBz, z0, z1, z2, z3, z4, z5⟩ := hHeld
            have hss := fun W => @run_string_add_sum Tryz.prog W (strOfNums [1] ++ v1 ++ v2 ++ v3 ++ v4) v5 n5
            go_wp2_with ((go_at_call 73; refine (h5.out _).mono ?_; rintro e w3 ⟨rfl, hb3⟩))
            go_ret
            exact ⟨rfl, hBz.trans (hb3.mono hBz.size)⟩
          · go_simp
            refine (h4.out _).mono ?_
            rintro e wc4 ⟨rfl, hbw⟩
            have q := (hbw.cell (block_lt_of_cell q)).trans q
            refine hK.out _ _ (six_kept (Nat.le_refl _) hbw hHeld) (fun hHeld => ?_)
            clear hK K
            refine wpAnyH_ready (rs := [4]) (by kernel_rfl) (by simp) (AllReadyH.cons (o := { dst := some 8, op := _, type := _, pos := _, after := _, guard := _ }) rfl (fun K hK => ?_) AllReadyH.nil)
            have hq := conv_at _ _ _ q
            go_simp
            clear hq
            refine hK.out _ _ hHeld (fun hHeld => ?_)
            clear hK K
            refine wpAnyH_take (i := 9) (oi := { dst := some 13, op := _, type := _, pos := _, after := _, guard := _ }) rfl (by kernel_rfl) (by kernel_rfl) (by kernel_rfl) (fun _ _ _ h => h) (Or.inl ⟨by rfl, fun w _ => by have hss := @run_string_add_sum Tryz.prog w (strOfNums [1]) (v1) n1; go_simp; rfl⟩) hHeld ?_
            simp only [Act.put, List.setIfInBounds_toArray, List.set_cons_zero, List.set_cons_succ]
            refine wpAnyH_take (i := 14) (oi := { dst := some 18, op := _, type := _, pos := _, after := _, guard := _ }) rfl (by kernel_rfl) (by kernel_rfl) (by kernel_rfl) (fun _ _ _ h => h) (Or.inl ⟨by rfl, fun w _ => by have hss := @run_string_add_sum Tryz.prog w (strOfNums [1] ++ v1) (v2) n2; go_simp; rfl⟩) hHeld ?_
            simp only [Act.put, List.setIfInBounds_toArray, List.set_cons_zero, List.set_cons_succ]
            refine wpAnyH_take (i := 19) (oi := { dst := some 23, op := _, type := _, pos := _, after := _, guard := _ }) rfl (by kernel_rfl) (by kernel_rfl) (by kernel_rfl) (fun _ _ _ h => h) (Or.inl ⟨by rfl, fun w _ => by have hss := @run_string_add_sum Tryz.prog w (strOfNums [1] ++ v1 ++ v2) (v3) n3; go_simp; rfl⟩) hHeld ?_
            simp only [Act.put, List.setIfInBounds_toArray, List.set_cons_zero, List.set_cons_succ]
            refine wpAnyH_take (i := 23) (oi := { dst := some 27, op := _, type := _, pos := _, after := _, guard := _ }) rfl (by kernel_rfl) (by kernel_rfl) (by kernel_rfl) (fun _ _ _ h => h) (Or.inl ⟨by rfl, fun w _ => by have hss := @run_string_add_sum Tryz.prog w (strOfNums [1] ++ v1 ++ v2 ++ v3) (v4) n4; go_simp; rfl⟩) hHeld ?_
            simp only [Act.put, List.setIfInBounds_toArray, List.set_cons_zero, List.set_cons_succ]
            refine wpAnyH_ready (rs := [24]) (by kernel_rfl) (by simp) (AllReadyH.cons (o := { dst := some 3, op := _, type := _, pos := _, after := _, guard := _ }) rfl (fun K hK => ?_) AllReadyH.nil)
            go_simp
            refine hK.out _ _ hHeld (fun hHeld => ?_)
            clear hK K
            refine wpAnyH_done (by kernel_rfl) ?_ _
            obtain ⟨hBz, z0, z1, z2, z3, z4, z5⟩ := hHeld
            have hss := fun W => @run_string_add_sum Tryz.prog W (strOfNums [1] ++ v1 ++ v2 ++ v3 ++ v4) v5 n5
            go_wp2_with ((go_at_call 73; refine (h5.out _).mono ?_; rintro e w3 ⟨rfl, hb3⟩))
            go_ret
            exact ⟨rfl, hBz.trans (hb3.mono hBz.size)⟩
        · go_simp
          refine (h4.out _).mono ?_
          rintro e wc4 ⟨rfl, hbw⟩
          refine hK.out _ _ (six_kept (Nat.le_refl _) hbw hHeld) (fun hHeld => ?_)
          clear hK K
          refine wpAnyH_ready (rs := [3]) (by kernel_rfl) (by simp) (AllReadyH.cons (o := { dst := some 7, op := _, type := _, pos := _, after := _, guard := _ }) rfl (fun K hK => ?_) AllReadyH.nil)
          go_simp
          have q := alloc_cell wc4 (.int .u8 1) 5
          refine hK.out _ _ (six_alloc (Nat.le_refl _) hHeld _) (fun hHeld => ?_)
          clear hK K
          refine wpAnyH_ready (rs := [4]) (by kernel_rfl) (by simp) (AllReadyH.cons (o := { dst := some 8, op := _, type := _, pos := _, after := _, guard := _ }) rfl (fun K hK => ?_) AllReadyH.nil)
          have hq := conv_at _ _ _ q
          go_simp
          clear hq
          refine hK.out _ _ hHeld (fun hHeld => ?_)
          clear hK K
          refine wpAnyH_take (i := 9) (oi := { dst := some 13, op := _, type := _, pos := _, after := _, guard := _ }) rfl (by kernel_rfl) (by kernel_rfl) (by kernel_rfl) (fun _ _ _ h => h) (Or.inl ⟨by rfl, fun w _ => by have hss := @run_string_add_sum Tryz.prog w (strOfNums [1]) (v1) n1; go_simp; rfl⟩) hHeld ?_
          simp only [Act.put, List.setIfInBounds_toArray, List.set_cons_zero, List.set_cons_succ]
          refine wpAnyH_take (i := 14) (oi := { dst := some 18, op := _, type := _, pos := _, after := _, guard := _ }) rfl (by kernel_rfl) (by kernel_rfl) (by kernel_rfl) (fun _ _ _ h => h) (Or.inl ⟨by rfl, fun w _ => by have hss := @run_string_add_sum Tryz.prog w (strOfNums [1] ++ v1) (v2) n2; go_simp; rfl⟩) hHeld ?_
          simp only [Act.put, List.setIfInBounds_toArray, List.set_cons_zero, List.set_cons_succ]
          refine wpAnyH_take (i := 19) (oi := { dst := some 23, op := _, type := _, pos := _, after := _, guard := _ }) rfl (by kernel_rfl) (by kernel_rfl) (by kernel_rfl) (fun _ _ _ h => h) (Or.inl ⟨by rfl, fun w _ => by have hss := @run_string_add_sum Tryz.prog w (strOfNums [1] ++ v1 ++ v2) (v3) n3; go_simp; rfl⟩) hHeld ?_
          simp only [Act.put, List.setIfInBounds_toArray, List.set_cons_zero, List.set_cons_succ]
          refine wpAnyH_take (i := 23) (oi := { dst := some 27, op := _, type := _, pos := _, after := _, guard := _ }) rfl (by kernel_rfl) (by kernel_rfl) (by kernel_rfl) (fun _ _ _ h => h) (Or.inl ⟨by rfl, fun w _ => by have hss := @run_string_add_sum Tryz.prog w (strOfNums [1] ++ v1 ++ v2 ++ v3) (v4) n4; go_simp; rfl⟩) hHeld ?_
          simp only [Act.put, List.setIfInBounds_toArray, List.set_cons_zero, List.set_cons_succ]
          refine wpAnyH_ready (rs := [24]) (by kernel_rfl) (by simp) (AllReadyH.cons (o := { dst := some 3, op := _, type := _, pos := _, after := _, guard := _ }) rfl (fun K hK => ?_) AllReadyH.nil)
          go_simp
          refine hK.out _ _ hHeld (fun hHeld => ?_)
          clear hK K
          refine wpAnyH_done (by kernel_rfl) ?_ _
          obtain ⟨hBz, z0, z1, z2, z3, z4, z5⟩ := hHeld
          have hss := fun W => @run_string_add_sum Tryz.prog W (strOfNums [1] ++ v1 ++ v2 ++ v3 ++ v4) v5 n5
          go_wp2_with ((go_at_call 73; refine (h5.out _).mono ?_; rintro e w3 ⟨rfl, hb3⟩))
          go_ret
          exact ⟨rfl, hBz.trans (hb3.mono hBz.size)⟩
end Go.Proofs.YtgccjefbedpmpaaGreatDoor

import Derived.Test.YtgccjefbedpmpaaGreatDoorZByts
namespace Go.Proofs.YtgccjefbedpmpaaGreatDoor
open Go.RowKit
set_option maxRecDepth 100000 in
set_option maxHeartbeats 4000000 in
theorem bytes_del (cl ck st rf ch : Int) (v1 v2 v3 v4 : ByteArray) (h1 : Hid (∀ W, Calls Tryz.prog 73 #[.int .u64 cl] W fun e w' => e = .returned (.string v1) ∧ Below W.heap.size W w')) (h2 : Hid (∀ W, Calls Tryz.prog 73 #[.int .u64 ck] W fun e w' => e = .returned (.string v2) ∧ Below W.heap.size W w')) (h3 : Hid (∀ W, Calls Tryz.prog 73 #[.int .u64 st] W fun e w' => e = .returned (.string v3) ∧ Below W.heap.size W w')) (h4 : Hid (∀ W, Calls Tryz.prog 73 #[.int .u64 rf] W fun e w' => e = .returned (.string v4) ∧ Below W.heap.size W w')) (s1 : v1.size ≤ 10) (s2 : v2.size ≤ 10) (s3 : v3.size ≤ 10) (s4 : v4.size ≤ 10) (x1 : IntKind.u64.wrap cl = cl) (x2 : IntKind.u64.wrap ck = ck) (x3 : IntKind.u64.wrap st = st) (w : World) :
    Calls Tryz.prog 74 #[.agg #[.int .i64 2, .int .u32 cl, .int .u32 ck, .int .u32 st, .int .u64 rf, .int .i32 ch]] w fun e w' => e = .returned (.string (strOfNums [2] ++ v1 ++ v2 ++ v3 ++ v4)) ∧ Below w.heap.size w w' := by
  have y1 : IntKind.u8.wrap 2 = 2 := rfl
  have n0 : (strOfNums [2]).size = 1 := strOfNums_size [2]
  have n1 : (strOfNums [2]).size + v1.size ≤ 9223372036854775807 := by omega
  have n2 : (strOfNums [2] ++ v1).size + v2.size ≤ 9223372036854775807 := by simp only [ByteArray.size_append]; omega
  have n3 : (strOfNums [2] ++ v1 ++ v2).size + v3.size ≤ 9223372036854775807 := by simp only [ByteArray.size_append]; omega
  have n4 : (strOfNums [2] ++ v1 ++ v2 ++ v3).size + v4.size ≤ 9223372036854775807 := by simp only [ByteArray.size_append]; omega
  clear n0
  have c0 : (w.alloc (.cells #[.int .i64 2, .int .u32 cl, .int .u32 ck, .int .u32 st, .int .u64 rf, .int .i32 ch] 43)).cell? ⟨w.heap.size, 0, none⟩ = some (.int .i64 2) := (cell_of_row _ _ _ _ _ _ (heap_alloc_new w _)).trans rfl
  have c1 : (w.alloc (.cells #[.int .i64 2, .int .u32 cl, .int .u32 ck, .int .u32 st, .int .u64 rf, .int .i32 ch] 43)).cell? ⟨w.heap.size, 1, none⟩ = some (.int .u32 cl) := (cell_of_row _ _ _ _ _ _ (heap_alloc_new w _)).trans rfl
  have c2 : (w.alloc (.cells #[.int .i64 2, .int .u32 cl, .int .u32 ck, .int .u32 st, .int .u64 rf, .int .i32 ch] 43)).cell? ⟨w.heap.size, 2, none⟩ = some (.int .u32 ck) := (cell_of_row _ _ _ _ _ _ (heap_alloc_new w _)).trans rfl
  have c3 : (w.alloc (.cells #[.int .i64 2, .int .u32 cl, .int .u32 ck, .int .u32 st, .int .u64 rf, .int .i32 ch] 43)).cell? ⟨w.heap.size, 3, none⟩ = some (.int .u32 st) := (cell_of_row _ _ _ _ _ _ (heap_alloc_new w _)).trans rfl
  have c4 : (w.alloc (.cells #[.int .i64 2, .int .u32 cl, .int .u32 ck, .int .u32 st, .int .u64 rf, .int .i32 ch] 43)).cell? ⟨w.heap.size, 4, none⟩ = some (.int .u64 rf) := (cell_of_row _ _ _ _ _ _ (heap_alloc_new w _)).trans rfl
  have c5 : (w.alloc (.cells #[.int .i64 2, .int .u32 cl, .int .u32 ck, .int .u32 st, .int .u64 rf, .int .i32 ch] 43)).cell? ⟨w.heap.size, 5, none⟩ = some (.int .i32 ch) := (cell_of_row _ _ _ _ _ _ (heap_alloc_new w _)).trans rfl
  have hA : Below w.heap.size w (w.alloc (.cells #[.int .i64 2, .int .u32 cl, .int .u32 ck, .int .u32 st, .int .u64 rf, .int .i32 ch] 43)) := (Below.refl _ _).alloc (Nat.le_refl _) _
  have hst := six_drew ⟨hA, c0, c1, c2, c3, c4, c5⟩
  clear hA c0 c1 c2 c3 c4 c5
  go_enter Tryz.func74, Tryz.ntmps74
  go_wp2
  refine wp_region_held_drew (S := fun w' => Below w.heap.size w w' ∧ w'.cell? ⟨w.heap.size, 0, none⟩ = some (.int .i64 2) ∧ w'.cell? ⟨w.heap.size, 1, none⟩ = some (.int .u32 cl) ∧ w'.cell? ⟨w.heap.size, 2, none⟩ = some (.int .u32 ck) ∧ w'.cell? ⟨w.heap.size, 3, none⟩ = some (.int .u32 st) ∧ w'.cell? ⟨w.heap.size, 4, none⟩ = some (.int .u64 rf) ∧ w'.cell? ⟨w.heap.size, 5, none⟩ = some (.int .i32 ch)) (by kernel_rfl) hst (fun hHeld => ?_)
  clear hst
  generalize World.drew _ = wD at hHeld ⊢
  refine wpAnyH_take (i := 0) (oi := { dst := some 4, op := _, type := _, pos := _, after := _, guard := _ }) rfl (by kernel_rfl) (by kernel_rfl) (by kernel_rfl) (fun _ _ _ h => h) (Or.inl ⟨by rfl, fun w ⟨_, z0, z1, z2, z3, z4, z5⟩ => by go_simp; rfl⟩) hHeld ?_
  simp only [Act.put, List.setIfInBounds_toArray, List.set_cons_zero, List.set_cons_succ]
  refine wpAnyH_take (i := 1) (oi := { dst := some 5, op := _, type := _, pos := _, after := _, guard := _ }) rfl (by kernel_rfl) (by kernel_rfl) (by kernel_rfl) (fun _ _ _ h => h) (Or.inl ⟨by rfl, fun w ⟨_, z0, z1, z2, z3, z4, z5⟩ => by go_simp; rfl⟩) hHeld ?_
  simp only [Act.put, List.setIfInBounds_toArray, List.set_cons_zero, List.set_cons_succ]
  refine wpAnyH_take (i := 2) (oi := { dst := some 6, op := _, type := _, pos := _, after := _, guard := _ }) rfl (by kernel_rfl) (by kernel_rfl) (by kernel_rfl) (fun _ _ _ h => h) (Or.inl ⟨by rfl, fun w ⟨_, z0, z1, z2, z3, z4, z5⟩ => by go_simp; rfl⟩) hHeld ?_
  simp only [Act.put, List.setIfInBounds_toArray, List.set_cons_zero, List.set_cons_succ]
  refine wpAnyH_take (i := 5) (oi := { dst := some 9, op := _, type := _, pos := _, after := _, guard := _ }) rfl (by kernel_rfl) (by kernel_rfl) (by kernel_rfl) (fun _ _ _ h => h) (Or.inl ⟨by rfl, fun w ⟨_, z0, z1, z2, z3, z4, z5⟩ => by go_simp; rfl⟩) hHeld ?_
  simp only [Act.put, List.setIfInBounds_toArray, List.set_cons_zero, List.set_cons_succ]
  refine wpAnyH_take (i := 6) (oi := { dst := some 10, op := _, type := _, pos := _, after := _, guard := _ }) rfl (by kernel_rfl) (by kernel_rfl) (by kernel_rfl) (fun _ _ _ h => h) (Or.inl ⟨by rfl, fun w ⟨_, z0, z1, z2, z3, z4, z5⟩ => by go_simp; rfl⟩) hHeld ?_
  simp only [Act.put, List.setIfInBounds_toArray, List.set_cons_zero, List.set_cons_succ]
  refine wpAnyH_take (i := 7) (oi := { dst := some 11, op := _, type := _, pos := _, after := _, guard := _ }) rfl (by kernel_rfl) (by kernel_rfl) (by kernel_rfl) (fun _ _ _ h => h) (Or.inl ⟨by rfl, fun w ⟨_, z0, z1, z2, z3, z4, z5⟩ => by go_simp; rfl⟩) hHeld ?_
  simp only [Act.put, List.setIfInBounds_toArray, List.set_cons_zero, List.set_cons_succ]
  refine wpAnyH_take (i := 10) (oi := { dst := some 14, op := _, type := _, pos := _, after := _, guard := _ }) rfl (by kernel_rfl) (by kernel_rfl) (by kernel_rfl) (fun _ _ _ h => h) (Or.inl ⟨by rfl, fun w ⟨_, z0, z1, z2, z3, z4, z5⟩ => by go_simp; rfl⟩) hHeld ?_
  simp only [Act.put, List.setIfInBounds_toArray, List.set_cons_zero, List.set_cons_succ]
  refine wpAnyH_take (i := 11) (oi := { dst := some 15, op := _, type := _, pos := _, after := _, guard := _ }) rfl (by kernel_rfl) (by kernel_rfl) (by kernel_rfl) (fun _ _ _ h => h) (Or.inl ⟨by rfl, fun w ⟨_, z0, z1, z2, z3, z4, z5⟩ => by go_simp; rfl⟩) hHeld ?_
  simp only [Act.put, List.setIfInBounds_toArray, List.set_cons_zero, List.set_cons_succ]
  refine wpAnyH_take (i := 12) (oi := { dst := some 16, op := _, type := _, pos := _, after := _, guard := _ }) rfl (by kernel_rfl) (by kernel_rfl) (by kernel_rfl) (fun _ _ _ h => h) (Or.inl ⟨by rfl, fun w ⟨_, z0, z1, z2, z3, z4, z5⟩ => by go_simp; rfl⟩) hHeld ?_
  simp only [Act.put, List.setIfInBounds_toArray, List.set_cons_zero, List.set_cons_succ]
  refine wpAnyH_take (i := 15) (oi := { dst := some 19, op := _, type := _, pos := _, after := _, guard := _ }) rfl (by kernel_rfl) (by kernel_rfl) (by kernel_rfl) (fun _ _ _ h => h) (Or.inl ⟨by rfl, fun w ⟨_, z0, z1, z2, z3, z4, z5⟩ => by go_simp; rfl⟩) hHeld ?_
  simp only [Act.put, List.setIfInBounds_toArray, List.set_cons_zero, List.set_cons_succ]
  refine wpAnyH_take (i := 16) (oi := { dst := some 20, op := _, type := _, pos := _, after := _, guard := _ }) rfl (by kernel_rfl) (by kernel_rfl) (by kernel_rfl) (fun _ _ _ h => h) (Or.inl ⟨by rfl, fun w ⟨_, z0, z1, z2, z3, z4, z5⟩ => by go_simp; rfl⟩) hHeld ?_
  simp only [Act.put, List.setIfInBounds_toArray, List.set_cons_zero, List.set_cons_succ]
  refine wpAnyH_take (i := 17) (oi := { dst := some 21, op := _, type := _, pos := _, after := _, guard := _ }) rfl (by kernel_rfl) (by kernel_rfl) (by kernel_rfl) (fun _ _ _ h => h) (Or.inl ⟨by rfl, fun w ⟨_, z0, z1, z2, z3, z4, z5⟩ => by go_simp; rfl⟩) hHeld ?_
  simp only [Act.put, List.setIfInBounds_toArray, List.set_cons_zero, List.set_cons_succ]
  refine wpAnyH_take (i := 20) (oi := { dst := some 24, op := _, type := _, pos := _, after := _, guard := _ }) rfl (by kernel_rfl) (by kernel_rfl) (by kernel_rfl) (fun _ _ _ h => h) (Or.inl ⟨by rfl, fun w ⟨_, z0, z1, z2, z3, z4, z5⟩ => by go_simp; rfl⟩) hHeld ?_
  simp only [Act.put, List.setIfInBounds_toArray, List.set_cons_zero, List.set_cons_succ]
  refine wpAnyH_take (i := 21) (oi := { dst := some 25, op := _, type := _, pos := _, after := _, guard := _ }) rfl (by kernel_rfl) (by kernel_rfl) (by kernel_rfl) (fun _ _ _ h => h) (Or.inl ⟨by rfl, fun w ⟨_, z0, z1, z2, z3, z4, z5⟩ => by go_simp; rfl⟩) hHeld ?_
  simp only [Act.put, List.setIfInBounds_toArray, List.set_cons_zero, List.set_cons_succ]
  refine wpAnyH_ready (rs := [3, 8]) (by kernel_rfl) (by simp) (AllReadyH.cons (o := { dst := some 7, op := _, type := _, pos := _, after := _, guard := _ }) rfl (fun K hK => ?_) (AllReadyH.cons (o := { dst := some 12, op := _, type := _, pos := _, after := _, guard := _ }) rfl (fun K hK => ?_) AllReadyH.nil))
  · go_simp
    have q := alloc_cell wD (.int .u8 2) 5
    refine hK.out _ _ (six_alloc (Nat.le_refl _) hHeld _) (fun hHeld => ?_)
    clear hK K
    refine wpAnyH_ready (rs := [4, 8]) (by kernel_rfl) (by simp) (AllReadyH.cons (o := { dst := some 8, op := _, type := _, pos := _, after := _, guard := _ }) rfl (fun K hK => ?_) (AllReadyH.cons (o := { dst := some 12, op := _, type := _, pos := _, after := _, guard := _ }) rfl (fun K hK => ?_) AllReadyH.nil))
    · have hq := conv_at _ _ _ q
      go_simp
      clear hq
      refine hK.out _ _ hHeld (fun hHeld => ?_)
      clear hK K
      refine wpAnyH_ready (rs := [8]) (by kernel_rfl) (by simp) (AllReadyH.cons (o := { dst := some 12, op := _, type := _, pos := _, after := _, guard := _ }) rfl (fun K hK => ?_) AllReadyH.nil)
      go_simp
      refine (h1.out _).mono ?_
      rintro e wc1 ⟨rfl, hbw⟩
      refine hK.out _ _ (six_kept (Nat.le_refl _) hbw hHeld) (fun hHeld => ?_)
      clear hK K
      refine wpAnyH_take (i := 9) (oi := { dst := some 13, op := _, type := _, pos := _, after := _, guard := _ }) rfl (by kernel_rfl) (by kernel_rfl) (by kernel_rfl) (fun _ _ _ h => h) (Or.inl ⟨by rfl, fun w _ => by have hss := @run_string_add_sum Tryz.prog w (strOfNums [2]) (v1) n1; go_simp; rfl⟩) hHeld ?_
      simp only [Act.put, List.setIfInBounds_toArray, List.set_cons_zero, List.set_cons_succ]
      refine wpAnyH_ready (rs := [13]) (by kernel_rfl) (by simp) (AllReadyH.cons (o := { dst := some 17, op := _, type := _, pos := _, after := _, guard := _ }) rfl (fun K hK => ?_) AllReadyH.nil)
      go_simp
      refine (h2.out _).mono ?_
      rintro e wc2 ⟨rfl, hbw⟩
      refine hK.out _ _ (six_kept (Nat.le_refl _) hbw hHeld) (fun hHeld => ?_)
      clear hK K
      refine wpAnyH_take (i := 14) (oi := { dst := some 18, op := _, type := _, pos := _, after := _, guard := _ }) rfl (by kernel_rfl) (by kernel_rfl) (by kernel_rfl) (fun _ _ _ h => h) (Or.inl ⟨by rfl, fun w _ => by have hss := @run_string_add_sum Tryz.prog w (strOfNums [2] ++ v1) (v2) n2; go_simp; rfl⟩) hHeld ?_
      simp only [Act.put, List.setIfInBounds_toArray, List.set_cons_zero, List.set_cons_succ]
      refine wpAnyH_ready (rs := [18]) (by kernel_rfl) (by simp) (AllReadyH.cons (o := { dst := some 22, op := _, type := _, pos := _, after := _, guard := _ }) rfl (fun K hK => ?_) AllReadyH.nil)
      go_simp
      refine (h3.out _).mono ?_
      rintro e wc3 ⟨rfl, hbw⟩
      refine hK.out _ _ (six_kept (Nat.le_refl _) hbw hHeld) (fun hHeld => ?_)
      clear hK K
      refine wpAnyH_take (i := 19) (oi := { dst := some 23, op := _, type := _, pos := _, after := _, guard := _ }) rfl (by kernel_rfl) (by kernel_rfl) (by kernel_rfl) (fun _ _ _ h => h) (Or.inl ⟨by rfl, fun w _ => by have hss := @run_string_add_sum Tryz.prog w (strOfNums [2] ++ v1 ++ v2) (v3) n3; go_simp; rfl⟩) hHeld ?_
      simp only [Act.put, List.setIfInBounds_toArray, List.set_cons_zero, List.set_cons_succ]
      refine wpAnyH_ready (rs := [22]) (by kernel_rfl) (by simp) (AllReadyH.cons (o := { dst := some 26, op := _, type := _, pos := _, after := _, guard := _ }) rfl (fun K hK => ?_) AllReadyH.nil)
      go_simp
      refine (h4.out _).mono ?_
      rintro e wc4 ⟨rfl, hbw⟩
      refine hK.out _ _ (six_kept (Nat.le_refl _) hbw hHeld) (fun hHeld => ?_)
      clear hK K
      refine wpAnyH_take (i := 23) (oi := { dst := some 27, op := _, type := _, pos := _, after := _, guard := _ }) rfl (by kernel_rfl) (by kernel_rfl) (by kernel_rfl) (fun _ _ _ h => h) (Or.inl ⟨by rfl, fun w _ => by have hss := @run_string_add_sum Tryz.prog w (strOfNums [2] ++ v1 ++ v2 ++ v3) (v4) n4; go_simp; rfl⟩) hHeld ?_
      simp only [Act.put, List.setIfInBounds_toArray, List.set_cons_zero, List.set_cons_succ]
      refine wpAnyH_ready (rs := [24]) (by kernel_rfl) (by simp) (AllReadyH.cons (o := { dst := some 3, op := _, type := _, pos := _, after := _, guard := _ }) rfl (fun K hK => ?_) AllReadyH.nil)
      go_simp
      refine hK.out _ _ hHeld (fun hHeld => ?_)
      clear hK K
      refine wpAnyH_done (by kernel_rfl) ?_ _
      obtain ⟨hBz, z0, z1, z2, z3, z4, z5⟩ := hHeld
      go_wp2
      go_ret
      exact ⟨rfl, hBz⟩
    · go_simp
      refine (h1.out _).mono ?_
      rintro e wc1 ⟨rfl, hbw⟩
      have q := (hbw.cell (block_lt_of_cell q)).trans q
      refine hK.out _ _ (six_kept (Nat.le_refl _) hbw hHeld) (fun hHeld => ?_)
      clear hK K
      refine wpAnyH_ready (rs := [4, 13]) (by kernel_rfl) (by simp) (AllReadyH.cons (o := { dst := some 8, op := _, type := _, pos := _, after := _, guard := _ }) rfl (fun K hK => ?_) (AllReadyH.cons (o := { dst := some 17, op := _, type := _, pos := _, after := _, guard := _ }) rfl (fun K hK => ?_) AllReadyH.nil))
      · have hq := conv_at _ _ _ q
        go_simp
        clear hq
        refine hK.out _ _ hHeld (fun hHeld => ?_)
        clear hK K
        refine wpAnyH_take (i := 9) (oi := { dst := some 13, op := _, type := _, pos := _, after := _, guard := _ }) rfl (by kernel_rfl) (by kernel_rfl) (by kernel_rfl) (fun _ _ _ h => h) (Or.inl ⟨by rfl, fun w _ => by have hss := @run_string_add_sum Tryz.prog w (strOfNums [2]) (v1) n1; go_simp; rfl⟩) hHeld ?_
        simp only [Act.put, List.setIfInBounds_toArray, List.set_cons_zero, List.set_cons_succ]
        refine wpAnyH_ready (rs := [13]) (by kernel_rfl) (by simp) (AllReadyH.cons (o := { dst := some 17, op := _, type := _, pos := _, after := _, guard := _ }) rfl (fun K hK => ?_) AllReadyH.nil)
        go_simp
        refine (h2.out _).mono ?_
        rintro e wc2 ⟨rfl, hbw⟩
        refine hK.out _ _ (six_kept (Nat.le_refl _) hbw hHeld) (fun hHeld => ?_)
        clear hK K
        refine wpAnyH_take (i := 14) (oi := { dst := some 18, op := _, type := _, pos := _, after := _, guard := _ }) rfl (by kernel_rfl) (by kernel_rfl) (by kernel_rfl) (fun _ _ _ h => h) (Or.inl ⟨by rfl, fun w _ => by have hss := @run_string_add_sum Tryz.prog w (strOfNums [2] ++ v1) (v2) n2; go_simp; rfl⟩) hHeld ?_
        simp only [Act.put, List.setIfInBounds_toArray, List.set_cons_zero, List.set_cons_succ]
        refine wpAnyH_ready (rs := [18]) (by kernel_rfl) (by simp) (AllReadyH.cons (o := { dst := some 22, op := _, type := _, pos := _, after := _, guard := _ }) rfl (fun K hK => ?_) AllReadyH.nil)
        go_simp
        refine (h3.out _).mono ?_
        rintro e wc3 ⟨rfl, hbw⟩
        refine hK.out _ _ (six_kept (Nat.le_refl _) hbw hHeld) (fun hHeld => ?_)
        clear hK K
        refine wpAnyH_take (i := 19) (oi := { dst := some 23, op := _, type := _, pos := _, after := _, guard := _ }) rfl (by kernel_rfl) (by kernel_rfl) (by kernel_rfl) (fun _ _ _ h => h) (Or.inl ⟨by rfl, fun w _ => by have hss := @run_string_add_sum Tryz.prog w (strOfNums [2] ++ v1 ++ v2) (v3) n3; go_simp; rfl⟩) hHeld ?_
        simp only [Act.put, List.setIfInBounds_toArray, List.set_cons_zero, List.set_cons_succ]
        refine wpAnyH_ready (rs := [22]) (by kernel_rfl) (by simp) (AllReadyH.cons (o := { dst := some 26, op := _, type := _, pos := _, after := _, guard := _ }) rfl (fun K hK => ?_) AllReadyH.nil)
        go_simp
        refine (h4.out _).mono ?_
        rintro e wc4 ⟨rfl, hbw⟩
        refine hK.out _ _ (six_kept (Nat.le_refl _) hbw hHeld) (fun hHeld => ?_)
        clear hK K
        refine wpAnyH_take (i := 23) (oi := { dst := some 27, op := _, type := _, pos := _, after := _, guard := _ }) rfl (by kernel_rfl) (by kernel_rfl) (by kernel_rfl) (fun _ _ _ h => h) (Or.inl ⟨by rfl, fun w _ => by have hss := @run_string_add_sum Tryz.prog w (strOfNums [2] ++ v1 ++ v2 ++ v3) (v4) n4; go_simp; rfl⟩) hHeld ?_
        simp only [Act.put, List.setIfInBounds_toArray, List.set_cons_zero, List.set_cons_succ]
        refine wpAnyH_ready (rs := [24]) (by kernel_rfl) (by simp) (AllReadyH.cons (o := { dst := some 3, op := _, type := _, pos := _, after := _, guard := _ }) rfl (fun K hK => ?_) AllReadyH.nil)
        go_simp
        refine hK.out _ _ hHeld (fun hHeld => ?_)
        clear hK K
        refine wpAnyH_done (by kernel_rfl) ?_ _
        obtain ⟨hBz, z0, z1, z2, z3, z4, z5⟩ := hHeld
        go_wp2
        go_ret
        exact ⟨rfl, hBz⟩
      · go_simp
        refine (h2.out _).mono ?_
        rintro e wc2 ⟨rfl, hbw⟩
        have q := (hbw.cell (block_lt_of_cell q)).trans q
        refine hK.out _ _ (six_kept (Nat.le_refl _) hbw hHeld) (fun hHeld => ?_)
        clear hK K
        refine wpAnyH_ready (rs := [4, 18]) (by kernel_rfl) (by simp) (AllReadyH.cons (o := { dst := some 8, op := _, type := _, pos := _, after := _, guard := _ }) rfl (fun K hK => ?_) (AllReadyH.cons (o := { dst := some 22, op := _, type := _, pos := _, after := _, guard := _ }) rfl (fun K hK => ?_) AllReadyH.nil))
        · have hq := conv_at _ _ _ q
          go_simp
          clear hq
          refine hK.out _ _ hHeld (fun hHeld => ?_)
          clear hK K
          refine wpAnyH_take (i := 9) (oi := { dst := some 13, op := _, type := _, pos := _, after := _, guard := _ }) rfl (by kernel_rfl) (by kernel_rfl) (by kernel_rfl) (fun _ _ _ h => h) (Or.inl ⟨by rfl, fun w _ => by have hss := @run_string_add_sum Tryz.prog w (strOfNums [2]) (v1) n1; go_simp; rfl⟩) hHeld ?_
          simp only [Act.put, List.setIfInBounds_toArray, List.set_cons_zero, List.set_cons_succ]
          refine wpAnyH_take (i := 14) (oi := { dst := some 18, op := _, type := _, pos := _, after := _, guard := _ }) rfl (by kernel_rfl) (by kernel_rfl) (by kernel_rfl) (fun _ _ _ h => h) (Or.inl ⟨by rfl, fun w _ => by have hss := @run_string_add_sum Tryz.prog w (strOfNums [2] ++ v1) (v2) n2; go_simp; rfl⟩) hHeld ?_
          simp only [Act.put, List.setIfInBounds_toArray, List.set_cons_zero, List.set_cons_succ]
          refine wpAnyH_ready (rs := [18]) (by kernel_rfl) (by simp) (AllReadyH.cons (o := { dst := some 22, op := _, type := _, pos := _, after := _, guard := _ }) rfl (fun K hK => ?_) AllReadyH.nil)
          go_simp
          refine (h3.out _).mono ?_
          rintro e wc3 ⟨rfl, hbw⟩
          refine hK.out _ _ (six_kept (Nat.le_refl _) hbw hHeld) (fun hHeld => ?_)
          clear hK K
          refine wpAnyH_take (i := 19) (oi := { dst := some 23, op := _, type := _, pos := _, after := _, guard := _ }) rfl (by kernel_rfl) (by kernel_rfl) (by kernel_rfl) (fun _ _ _ h => h) (Or.inl ⟨by rfl, fun w _ => by have hss := @run_string_add_sum Tryz.prog w (strOfNums [2] ++ v1 ++ v2) (v3) n3; go_simp; rfl⟩) hHeld ?_
          simp only [Act.put, List.setIfInBounds_toArray, List.set_cons_zero, List.set_cons_succ]
          refine wpAnyH_ready (rs := [22]) (by kernel_rfl) (by simp) (AllReadyH.cons (o := { dst := some 26, op := _, type := _, pos := _, after := _, guard := _ }) rfl (fun K hK => ?_) AllReadyH.nil)
          go_simp
          refine (h4.out _).mono ?_
          rintro e wc4 ⟨rfl, hbw⟩
          refine hK.out _ _ (six_kept (Nat.le_refl _) hbw hHeld) (fun hHeld => ?_)
          clear hK K
          refine wpAnyH_take (i := 23) (oi := { dst := some 27, op := _, type := _, pos := _, after := _, guard := _ }) rfl (by kernel_rfl) (by kernel_rfl) (by kernel_rfl) (fun _ _ _ h => h) (Or.inl ⟨by rfl, fun w _ => by have hss := @run_string_add_sum Tryz.prog w (strOfNums [2] ++ v1 ++ v2 ++ v3) (v4) n4; go_simp; rfl⟩) hHeld ?_
          simp only [Act.put, List.setIfInBounds_toArray, List.set_cons_zero, List.set_cons_succ]
          refine wpAnyH_ready (rs := [24]) (by kernel_rfl) (by simp) (AllReadyH.cons (o := { dst := some 3, op := _, type := _, pos := _, after := _, guard := _ }) rfl (fun K hK => ?_) AllReadyH.nil)
          go_simp
          refine hK.out _ _ hHeld (fun hHeld => ?_)
          clear hK K
          refine wpAnyH_done (by kernel_rfl) ?_ _
          obtain ⟨hBz, z0, z1, z2, z3, z4, z5⟩ := hHeld
          go_wp2
          go_ret
          exact ⟨rfl, hBz⟩
        · go_simp
          refine (h3.out _).mono ?_
          rintro e wc3 ⟨rfl, hbw⟩
          have q := (hbw.cell (block_lt_of_cell q)).trans q
          refine hK.out _ _ (six_kept (Nat.le_refl _) hbw hHeld) (fun hHeld => ?_)
          clear hK K
          refine wpAnyH_ready (rs := [4, 22]) (by kernel_rfl) (by simp) (AllReadyH.cons (o := { dst := some 8, op := _, type := _, pos := _, after := _, guard := _ }) rfl (fun K hK => ?_) (AllReadyH.cons (o := { dst := some 26, op := _, type := _, pos := _, after := _, guard := _ }) rfl (fun K hK => ?_) AllReadyH.nil))
          · have hq := conv_at _ _ _ q
            go_simp
            clear hq
            refine hK.out _ _ hHeld (fun hHeld => ?_)
            clear hK K
            refine wpAnyH_take (i := 9) (oi := { dst := some 13, op := _, type := _, pos := _, after := _, guard := _ }) rfl (by kernel_rfl) (by kernel_rfl) (by kernel_rfl) (fun _ _ _ h => h) (Or.inl ⟨by rfl, fun w _ => by have hss := @run_string_add_sum Tryz.prog w (strOfNums [2]) (v1) n1; go_simp; rfl⟩) hHeld ?_
            simp only [Act.put, List.setIfInBounds_toArray, List.set_cons_zero, List.set_cons_succ]
            refine wpAnyH_take (i := 14) (oi := { dst := some 18, op := _, type := _, pos := _, after := _, guard := _ }) rfl (by kernel_rfl) (by kernel_rfl) (by kernel_rfl) (fun _ _ _ h => h) (Or.inl ⟨by rfl, fun w _ => by have hss := @run_string_add_sum Tryz.prog w (strOfNums [2] ++ v1) (v2) n2; go_simp; rfl⟩) hHeld ?_
            simp only [Act.put, List.setIfInBounds_toArray, List.set_cons_zero, List.set_cons_succ]
            refine wpAnyH_take (i := 19) (oi := { dst := some 23, op := _, type := _, pos := _, after := _, guard := _ }) rfl (by kernel_rfl) (by kernel_rfl) (by kernel_rfl) (fun _ _ _ h => h) (Or.inl ⟨by rfl, fun w _ => by have hss := @run_string_add_sum Tryz.prog w (strOfNums [2] ++ v1 ++ v2) (v3) n3; go_simp; rfl⟩) hHeld ?_
            simp only [Act.put, List.setIfInBounds_toArray, List.set_cons_zero, List.set_cons_succ]
            refine wpAnyH_ready (rs := [22]) (by kernel_rfl) (by simp) (AllReadyH.cons (o := { dst := some 26, op := _, type := _, pos := _, after := _, guard := _ }) rfl (fun K hK => ?_) AllReadyH.nil)
            go_simp
            refine (h4.out _).mono ?_
            rintro e wc4 ⟨rfl, hbw⟩
            refine hK.out _ _ (six_kept (Nat.le_refl _) hbw hHeld) (fun hHeld => ?_)
            clear hK K
            refine wpAnyH_take (i := 23) (oi := { dst := some 27, op := _, type := _, pos := _, after := _, guard := _ }) rfl (by kernel_rfl) (by kernel_rfl) (by kernel_rfl) (fun _ _ _ h => h) (Or.inl ⟨by rfl, fun w _ => by have hss := @run_string_add_sum Tryz.prog w (strOfNums [2] ++ v1 ++ v2 ++ v3) (v4) n4; go_simp; rfl⟩) hHeld ?_
            simp only [Act.put, List.setIfInBounds_toArray, List.set_cons_zero, List.set_cons_succ]
            refine wpAnyH_ready (rs := [24]) (by kernel_rfl) (by simp) (AllReadyH.cons (o := { dst := some 3, op := _, type := _, pos := _, after := _, guard := _ }) rfl (fun K hK => ?_) AllReadyH.nil)
            go_simp
            refine hK.out _ _ hHeld (fun hHeld => ?_)
            clear hK K
            refine wpAnyH_done (by kernel_rfl) ?_ _
            obtain ⟨hBz, z0, z1, z2, z3, z4, z5⟩ := hHeld
            go_wp2
            go_ret
            exact ⟨rfl, hBz⟩
          · go_simp
            refine (h4.out _).mono ?_
            rintro e wc4 ⟨rfl, hbw⟩
            have q := (hbw.cell (block_lt_of_cell q)).trans q
            refine hK.out _ _ (six_kept (Nat.le_refl _) hbw hHeld) (fun hHeld => ?_)
            clear hK K
            refine wpAnyH_ready (rs := [4]) (by kernel_rfl) (by simp) (AllReadyH.cons (o := { dst := some 8, op := _, type := _, pos := _, after := _, guard := _ }) rfl (fun K hK => ?_) AllReadyH.nil)
            have hq := conv_at _ _ _ q
            go_simp
            clear hq
            refine hK.out _ _ hHeld (fun hHeld => ?_)
            clear hK K
            refine wpAnyH_take (i := 9) (oi := { dst := some 13, op := _, type := _, pos := _, after := _, guard := _ }) rfl (by kernel_rfl) (by kernel_rfl) (by kernel_rfl) (fun _ _ _ h => h) (Or.inl ⟨by rfl, fun w _ => by have hss := @run_string_add_sum Tryz.prog w (strOfNums [2]) (v1) n1; go_simp; rfl⟩) hHeld ?_
            simp only [Act.put, List.setIfInBounds_toArray, List.set_cons_zero, List.set_cons_succ]
            refine wpAnyH_take (i := 14) (oi := { dst := some 18, op := _, type := _, pos := _, after := _, guard := _ }) rfl (by kernel_rfl) (by kernel_rfl) (by kernel_rfl) (fun _ _ _ h => h) (Or.inl ⟨by rfl, fun w _ => by have hss := @run_string_add_sum Tryz.prog w (strOfNums [2] ++ v1) (v2) n2; go_simp; rfl⟩) hHeld ?_
            simp only [Act.put, List.setIfInBounds_toArray, List.set_cons_zero, List.set_cons_succ]
            refine wpAnyH_take (i := 19) (oi := { dst := some 23, op := _, type := _, pos := _, after := _, guard := _ }) rfl (by kernel_rfl) (by kernel_rfl) (by kernel_rfl) (fun _ _ _ h => h) (Or.inl ⟨by rfl, fun w _ => by have hss := @run_string_add_sum Tryz.prog w (strOfNums [2] ++ v1 ++ v2) (v3) n3; go_simp; rfl⟩) hHeld ?_
            simp only [Act.put, List.setIfInBounds_toArray, List.set_cons_zero, List.set_cons_succ]
            refine wpAnyH_take (i := 23) (oi := { dst := some 27, op := _, type := _, pos := _, after := _, guard := _ }) rfl (by kernel_rfl) (by kernel_rfl) (by kernel_rfl) (fun _ _ _ h => h) (Or.inl ⟨by rfl, fun w _ => by have hss := @run_string_add_sum Tryz.prog w (strOfNums [2] ++ v1 ++ v2 ++ v3) (v4) n4; go_simp; rfl⟩) hHeld ?_
            simp only [Act.put, List.setIfInBounds_toArray, List.set_cons_zero, List.set_cons_succ]
            refine wpAnyH_ready (rs := [24]) (by kernel_rfl) (by simp) (AllReadyH.cons (o := { dst := some 3, op := _, type := _, pos := _, after := _, guard := _ }) rfl (fun K hK => ?_) AllReadyH.nil)
            go_simp
            refine hK.out _ _ hHeld (fun hHeld => ?_)
            clear hK K
            refine wpAnyH_done (by kernel_rfl) ?_ _
            obtain ⟨hBz, z0, z1, z2, z3, z4, z5⟩ := hHeld
            go_wp2
            go_ret
            exact ⟨rfl, hBz⟩
  · go_simp
    refine (h1.out _).mono ?_
    rintro e wc1 ⟨rfl, hbw⟩
    refine hK.out _ _ (six_kept (Nat.le_refl _) hbw hHeld) (fun hHeld => ?_)
    clear hK K
    refine wpAnyH_ready (rs := [3, 13]) (by kernel_rfl) (by simp) (AllReadyH.cons (o := { dst := some 7, op := _, type := _, pos := _, after := _, guard := _ }) rfl (fun K hK => ?_) (AllReadyH.cons (o := { dst := some 17, op := _, type := _, pos := _, after := _, guard := _ }) rfl (fun K hK => ?_) AllReadyH.nil))
    · go_simp
      have q := alloc_cell wc1 (.int .u8 2) 5
      refine hK.out _ _ (six_alloc (Nat.le_refl _) hHeld _) (fun hHeld => ?_)
      clear hK K
      refine wpAnyH_ready (rs := [4, 13]) (by kernel_rfl) (by simp) (AllReadyH.cons (o := { dst := some 8, op := _, type := _, pos := _, after := _, guard := _ }) rfl (fun K hK => ?_) (AllReadyH.cons (o := { dst := some 17, op := _, type := _, pos := _, after := _, guard := _ }) rfl (fun K hK => ?_) AllReadyH.nil))
      · have hq := conv_at _ _ _ q
        go_simp
        clear hq
        refine hK.out _ _ hHeld (fun hHeld => ?_)
        clear hK K
        refine wpAnyH_take (i := 9) (oi := { dst := some 13, op := _, type := _, pos := _, after := _, guard := _ }) rfl (by kernel_rfl) (by kernel_rfl) (by kernel_rfl) (fun _ _ _ h => h) (Or.inl ⟨by rfl, fun w _ => by have hss := @run_string_add_sum Tryz.prog w (strOfNums [2]) (v1) n1; go_simp; rfl⟩) hHeld ?_
        simp only [Act.put, List.setIfInBounds_toArray, List.set_cons_zero, List.set_cons_succ]
        refine wpAnyH_ready (rs := [13]) (by kernel_rfl) (by simp) (AllReadyH.cons (o := { dst := some 17, op := _, type := _, pos := _, after := _, guard := _ }) rfl (fun K hK => ?_) AllReadyH.nil)
        go_simp
        refine (h2.out _).mono ?_
        rintro e wc2 ⟨rfl, hbw⟩
        refine hK.out _ _ (six_kept (Nat.le_refl _) hbw hHeld) (fun hHeld => ?_)
        clear hK K
        refine wpAnyH_take (i := 14) (oi := { dst := some 18, op := _, type := _, pos := _, after := _, guard := _ }) rfl (by kernel_rfl) (by kernel_rfl) (by kernel_rfl) (fun _ _ _ h => h) (Or.inl ⟨by rfl, fun w _ => by have hss := @run_string_add_sum Tryz.prog w (strOfNums [2] ++ v1) (v2) n2; go_simp; rfl⟩) hHeld ?_
        simp only [Act.put, List.setIfInBounds_toArray, List.set_cons_zero, List.set_cons_succ]
        refine wpAnyH_ready (rs := [18]) (by kernel_rfl) (by simp) (AllReadyH.cons (o := { dst := some 22, op := _, type := _, pos := _, after := _, guard := _ }) rfl (fun K hK => ?_) AllReadyH.nil)
        go_simp
        refine (h3.out _).mono ?_
        rintro e wc3 ⟨rfl, hbw⟩
        refine hK.out _ _ (six_kept (Nat.le_refl _) hbw hHeld) (fun hHeld => ?_)
        clear hK K
        refine wpAnyH_take (i := 19) (oi := { dst := some 23, op := _, type := _, pos := _, after := _, guard := _ }) rfl (by kernel_rfl) (by kernel_rfl) (by kernel_rfl) (fun _ _ _ h => h) (Or.inl ⟨by rfl, fun w _ => by have hss := @run_string_add_sum Tryz.prog w (strOfNums [2] ++ v1 ++ v2) (v3) n3; go_simp; rfl⟩) hHeld ?_
        simp only [Act.put, List.setIfInBounds_toArray, List.set_cons_zero, List.set_cons_succ]
        refine wpAnyH_ready (rs := [22]) (by kernel_rfl) (by simp) (AllReadyH.cons (o := { dst := some 26, op := _, type := _, pos := _, after := _, guard := _ }) rfl (fun K hK => ?_) AllReadyH.nil)
        go_simp
        refine (h4.out _).mono ?_
        rintro e wc4 ⟨rfl, hbw⟩
        refine hK.out _ _ (six_kept (Nat.le_refl _) hbw hHeld) (fun hHeld => ?_)
        clear hK K
        refine wpAnyH_take (i := 23) (oi := { dst := some 27, op := _, type := _, pos := _, after := _, guard := _ }) rfl (by kernel_rfl) (by kernel_rfl) (by kernel_rfl) (fun _ _ _ h => h) (Or.inl ⟨by rfl, fun w _ => by have hss := @run_string_add_sum Tryz.prog w (strOfNums [2] ++ v1 ++ v2 ++ v3) (v4) n4; go_simp; rfl⟩) hHeld ?_
        simp only [Act.put, List.setIfInBounds_toArray, List.set_cons_zero, List.set_cons_succ]
        refine wpAnyH_ready (rs := [24]) (by kernel_rfl) (by simp) (AllReadyH.cons (o := { dst := some 3, op := _, type := _, pos := _, after := _, guard := _ }) rfl (fun K hK => ?_) AllReadyH.nil)
        go_simp
        refine hK.out _ _ hHeld (fun hHeld => ?_)
        clear hK K
        refine wpAnyH_done (by kernel_rfl) ?_ _
        obtain ⟨hBz, z0, z1, z2, z3, z4, z5⟩ := hHeld
        go_wp2
        go_ret
        exact ⟨rfl, hBz⟩
      · go_simp
        refine (h2.out _).mono ?_
        rintro e wc2 ⟨rfl, hbw⟩
        have q := (hbw.cell (block_lt_of_cell q)).trans q
        refine hK.out _ _ (six_kept (Nat.le_refl _) hbw hHeld) (fun hHeld => ?_)
        clear hK K
        refine wpAnyH_ready (rs := [4, 18]) (by kernel_rfl) (by simp) (AllReadyH.cons (o := { dst := some 8, op := _, type := _, pos := _, after := _, guard := _ }) rfl (fun K hK => ?_) (AllReadyH.cons (o := { dst := some 22, op := _, type := _, pos := _, after := _, guard := _ }) rfl (fun K hK => ?_) AllReadyH.nil))
        · have hq := conv_at _ _ _ q
          go_simp
          clear hq
          refine hK.out _ _ hHeld (fun hHeld => ?_)
          clear hK K
          refine wpAnyH_take (i := 9) (oi := { dst := some 13, op := _, type := _, pos := _, after := _, guard := _ }) rfl (by kernel_rfl) (by kernel_rfl) (by kernel_rfl) (fun _ _ _ h => h) (Or.inl ⟨by rfl, fun w _ => by have hss := @run_string_add_sum Tryz.prog w (strOfNums [2]) (v1) n1; go_simp; rfl⟩) hHeld ?_
          simp only [Act.put, List.setIfInBounds_toArray, List.set_cons_zero, List.set_cons_succ]
          refine wpAnyH_take (i := 14) (oi := { dst := some 18, op := _, type := _, pos := _, after := _, guard := _ }) rfl (by kernel_rfl) (by kernel_rfl) (by kernel_rfl) (fun _ _ _ h => h) (Or.inl ⟨by rfl, fun w _ => by have hss := @run_string_add_sum Tryz.prog w (strOfNums [2] ++ v1) (v2) n2; go_simp; rfl⟩) hHeld ?_
          simp only [Act.put, List.setIfInBounds_toArray, List.set_cons_zero, List.set_cons_succ]
          refine wpAnyH_ready (rs := [18]) (by kernel_rfl) (by simp) (AllReadyH.cons (o := { dst := some 22, op := _, type := _, pos := _, after := _, guard := _ }) rfl (fun K hK => ?_) AllReadyH.nil)
          go_simp
          refine (h3.out _).mono ?_
          rintro e wc3 ⟨rfl, hbw⟩
          refine hK.out _ _ (six_kept (Nat.le_refl _) hbw hHeld) (fun hHeld => ?_)
          clear hK K
          refine wpAnyH_take (i := 19) (oi := { dst := some 23, op := _, type := _, pos := _, after := _, guard := _ }) rfl (by kernel_rfl) (by kernel_rfl) (by kernel_rfl) (fun _ _ _ h => h) (Or.inl ⟨by rfl, fun w _ => by have hss := @run_string_add_sum Tryz.prog w (strOfNums [2] ++ v1 ++ v2) (v3) n3; go_simp; rfl⟩) hHeld ?_
          simp only [Act.put, List.setIfInBounds_toArray, List.set_cons_zero, List.set_cons_succ]
          refine wpAnyH_ready (rs := [22]) (by kernel_rfl) (by simp) (AllReadyH.cons (o := { dst := some 26, op := _, type := _, pos := _, after := _, guard := _ }) rfl (fun K hK => ?_) AllReadyH.nil)
          go_simp
          refine (h4.out _).mono ?_
          rintro e wc4 ⟨rfl, hbw⟩
          refine hK.out _ _ (six_kept (Nat.le_refl _) hbw hHeld) (fun hHeld => ?_)
          clear hK K
          refine wpAnyH_take (i := 23) (oi := { dst := some 27, op := _, type := _, pos := _, after := _, guard := _ }) rfl (by kernel_rfl) (by kernel_rfl) (by kernel_rfl) (fun _ _ _ h => h) (Or.inl ⟨by rfl, fun w _ => by have hss := @run_string_add_sum Tryz.prog w (strOfNums [2] ++ v1 ++ v2 ++ v3) (v4) n4; go_simp; rfl⟩) hHeld ?_
          simp only [Act.put, List.setIfInBounds_toArray, List.set_cons_zero, List.set_cons_succ]
          refine wpAnyH_ready (rs := [24]) (by kernel_rfl) (by simp) (AllReadyH.cons (o := { dst := some 3, op := _, type := _, pos := _, after := _, guard := _ }) rfl (fun K hK => ?_) AllReadyH.nil)
          go_simp
          refine hK.out _ _ hHeld (fun hHeld => ?_)
          clear hK K
          refine wpAnyH_done (by kernel_rfl) ?_ _
          obtain ⟨hBz, z0, z1, z2, z3, z4, z5⟩ := hHeld
          go_wp2
          go_ret
          exact ⟨rfl, hBz⟩
        · go_simp
          refine (h3.out _).mono ?_
          rintro e wc3 ⟨rfl, hbw⟩
          have q := (hbw.cell (block_lt_of_cell q)).trans q
          refine hK.out _ _ (six_kept (Nat.le_refl _) hbw hHeld) (fun hHeld => ?_)
          clear hK K
          refine wpAnyH_ready (rs := [4, 22]) (by kernel_rfl) (by simp) (AllReadyH.cons (o := { dst := some 8, op := _, type := _, pos := _, after := _, guard := _ }) rfl (fun K hK => ?_) (AllReadyH.cons (o := { dst := some 26, op := _, type := _, pos := _, after := _, guard := _ }) rfl (fun K hK => ?_) AllReadyH.nil))
          · have hq := conv_at _ _ _ q
            go_simp
            clear hq
            refine hK.out _ _ hHeld (fun hHeld => ?_)
            clear hK K
            refine wpAnyH_take (i := 9) (oi := { dst := some 13, op := _, type := _, pos := _, after := _, guard := _ }) rfl (by kernel_rfl) (by kernel_rfl) (by kernel_rfl) (fun _ _ _ h => h) (Or.inl ⟨by rfl, fun w _ => by have hss := @run_string_add_sum Tryz.prog w (strOfNums [2]) (v1) n1; go_simp; rfl⟩) hHeld ?_
            simp only [Act.put, List.setIfInBounds_toArray, List.set_cons_zero, List.set_cons_succ]
            refine wpAnyH_take (i := 14) (oi := { dst := some 18, op := _, type := _, pos := _, after := _, guard := _ }) rfl (by kernel_rfl) (by kernel_rfl) (by kernel_rfl) (fun _ _ _ h => h) (Or.inl ⟨by rfl, fun w _ => by have hss := @run_string_add_sum Tryz.prog w (strOfNums [2] ++ v1) (v2) n2; go_simp; rfl⟩) hHeld ?_
            simp only [Act.put, List.setIfInBounds_toArray, List.set_cons_zero, List.set_cons_succ]
            refine wpAnyH_take (i := 19) (oi := { dst := some 23, op := _, type := _, pos := _, after := _, guard := _ }) rfl (by kernel_rfl) (by kernel_rfl) (by kernel_rfl) (fun _ _ _ h => h) (Or.inl ⟨by rfl, fun w _ => by have hss := @run_string_add_sum Tryz.prog w (strOfNums [2] ++ v1 ++ v2) (v3) n3; go_simp; rfl⟩) hHeld ?_
            simp only [Act.put, List.setIfInBounds_toArray, List.set_cons_zero, List.set_cons_succ]
            refine wpAnyH_ready (rs := [22]) (by kernel_rfl) (by simp) (AllReadyH.cons (o := { dst := some 26, op := _, type := _, pos := _, after := _, guard := _ }) rfl (fun K hK => ?_) AllReadyH.nil)
            go_simp
            refine (h4.out _).mono ?_
            rintro e wc4 ⟨rfl, hbw⟩
            refine hK.out _ _ (six_kept (Nat.le_refl _) hbw hHeld) (fun hHeld => ?_)
            clear hK K
            refine wpAnyH_take (i := 23) (oi := { dst := some 27, op := _, type := _, pos := _, after := _, guard := _ }) rfl (by kernel_rfl) (by kernel_rfl) (by kernel_rfl) (fun _ _ _ h => h) (Or.inl ⟨by rfl, fun w _ => by have hss := @run_string_add_sum Tryz.prog w (strOfNums [2] ++ v1 ++ v2 ++ v3) (v4) n4; go_simp; rfl⟩) hHeld ?_
            simp only [Act.put, List.setIfInBounds_toArray, List.set_cons_zero, List.set_cons_succ]
            refine wpAnyH_ready (rs := [24]) (by kernel_rfl) (by simp) (AllReadyH.cons (o := { dst := some 3, op := _, type := _, pos := _, after := _, guard := _ }) rfl (fun K hK => ?_) AllReadyH.nil)
            go_simp
            refine hK.out _ _ hHeld (fun hHeld => ?_)
            clear hK K
            refine wpAnyH_done (by kernel_rfl) ?_ _
            obtain ⟨hBz, z0, z1, z2, z3, z4, z5⟩ := hHeld
            go_wp2
            go_ret
            exact ⟨rfl, hBz⟩
          · go_simp
            refine (h4.out _).mono ?_
            rintro e wc4 ⟨rfl, hbw⟩
            have q := (hbw.cell (block_lt_of_cell q)).trans q
            refine hK.out _ _ (six_kept (Nat.le_refl _) hbw hHeld) (fun hHeld => ?_)
            clear hK K
            refine wpAnyH_ready (rs := [4]) (by kernel_rfl) (by simp) (AllReadyH.cons (o := { dst := some 8, op := _, type := _, pos := _, after := _, guard := _ }) rfl (fun K hK => ?_) AllReadyH.nil)
            have hq := conv_at _ _ _ q
            go_simp
            clear hq
            refine hK.out _ _ hHeld (fun hHeld => ?_)
            clear hK K
            refine wpAnyH_take (i := 9) (oi := { dst := some 13, op := _, type := _, pos := _, after := _, guard := _ }) rfl (by kernel_rfl) (by kernel_rfl) (by kernel_rfl) (fun _ _ _ h => h) (Or.inl ⟨by rfl, fun w _ => by have hss := @run_string_add_sum Tryz.prog w (strOfNums [2]) (v1) n1; go_simp; rfl⟩) hHeld ?_
            simp only [Act.put, List.setIfInBounds_toArray, List.set_cons_zero, List.set_cons_succ]
            refine wpAnyH_take (i := 14) (oi := { dst := some 18, op := _, type := _, pos := _, after := _, guard := _ }) rfl (by kernel_rfl) (by kernel_rfl) (by kernel_rfl) (fun _ _ _ h => h) (Or.inl ⟨by rfl, fun w _ => by have hss := @run_string_add_sum Tryz.prog w (strOfNums [2] ++ v1) (v2) n2; go_simp; rfl⟩) hHeld ?_
            simp only [Act.put, List.setIfInBounds_toArray, List.set_cons_zero, List.set_cons_succ]
            refine wpAnyH_take (i := 19) (oi := { dst := some 23, op := _, type := _, pos := _, after := _, guard := _ }) rfl (by kernel_rfl) (by kernel_rfl) (by kernel_rfl) (fun _ _ _ h => h) (Or.inl ⟨by rfl, fun w _ => by have hss := @run_string_add_sum Tryz.prog w (strOfNums [2] ++ v1 ++ v2) (v3) n3; go_simp; rfl⟩) hHeld ?_
            simp only [Act.put, List.setIfInBounds_toArray, List.set_cons_zero, List.set_cons_succ]
            refine wpAnyH_take (i := 23) (oi := { dst := some 27, op := _, type := _, pos := _, after := _, guard := _ }) rfl (by kernel_rfl) (by kernel_rfl) (by kernel_rfl) (fun _ _ _ h => h) (Or.inl ⟨by rfl, fun w _ => by have hss := @run_string_add_sum Tryz.prog w (strOfNums [2] ++ v1 ++ v2 ++ v3) (v4) n4; go_simp; rfl⟩) hHeld ?_
            simp only [Act.put, List.setIfInBounds_toArray, List.set_cons_zero, List.set_cons_succ]
            refine wpAnyH_ready (rs := [24]) (by kernel_rfl) (by simp) (AllReadyH.cons (o := { dst := some 3, op := _, type := _, pos := _, after := _, guard := _ }) rfl (fun K hK => ?_) AllReadyH.nil)
            go_simp
            refine hK.out _ _ hHeld (fun hHeld => ?_)
            clear hK K
            refine wpAnyH_done (by kernel_rfl) ?_ _
            obtain ⟨hBz, z0, z1, z2, z3, z4, z5⟩ := hHeld
            go_wp2
            go_ret
            exact ⟨rfl, hBz⟩
    · go_simp
      refine (h2.out _).mono ?_
      rintro e wc2 ⟨rfl, hbw⟩
      refine hK.out _ _ (six_kept (Nat.le_refl _) hbw hHeld) (fun hHeld => ?_)
      clear hK K
      refine wpAnyH_ready (rs := [3, 18]) (by kernel_rfl) (by simp) (AllReadyH.cons (o := { dst := some 7, op := _, type := _, pos := _, after := _, guard := _ }) rfl (fun K hK => ?_) (AllReadyH.cons (o := { dst := some 22, op := _, type := _, pos := _, after := _, guard := _ }) rfl (fun K hK => ?_) AllReadyH.nil))
      · go_simp
        have q := alloc_cell wc2 (.int .u8 2) 5
        refine hK.out _ _ (six_alloc (Nat.le_refl _) hHeld _) (fun hHeld => ?_)
        clear hK K
        refine wpAnyH_ready (rs := [4, 18]) (by kernel_rfl) (by simp) (AllReadyH.cons (o := { dst := some 8, op := _, type := _, pos := _, after := _, guard := _ }) rfl (fun K hK => ?_) (AllReadyH.cons (o := { dst := some 22, op := _, type := _, pos := _, after := _, guard := _ }) rfl (fun K hK => ?_) AllReadyH.nil))
        · have hq := conv_at _ _ _ q
          go_simp
          clear hq
          refine hK.out _ _ hHeld (fun hHeld => ?_)
          clear hK K
          refine wpAnyH_take (i := 9) (oi := { dst := some 13, op := _, type := _, pos := _, after := _, guard := _ }) rfl (by kernel_rfl) (by kernel_rfl) (by kernel_rfl) (fun _ _ _ h => h) (Or.inl ⟨by rfl, fun w _ => by have hss := @run_string_add_sum Tryz.prog w (strOfNums [2]) (v1) n1; go_simp; rfl⟩) hHeld ?_
          simp only [Act.put, List.setIfInBounds_toArray, List.set_cons_zero, List.set_cons_succ]
          refine wpAnyH_take (i := 14) (oi := { dst := some 18, op := _, type := _, pos := _, after := _, guard := _ }) rfl (by kernel_rfl) (by kernel_rfl) (by kernel_rfl) (fun _ _ _ h => h) (Or.inl ⟨by rfl, fun w _ => by have hss := @run_string_add_sum Tryz.prog w (strOfNums [2] ++ v1) (v2) n2; go_simp; rfl⟩) hHeld ?_
          simp only [Act.put, List.setIfInBounds_toArray, List.set_cons_zero, List.set_cons_succ]
          refine wpAnyH_ready (rs := [18]) (by kernel_rfl) (by simp) (AllReadyH.cons (o := { dst := some 22, op := _, type := _, pos := _, after := _, guard := _ }) rfl (fun K hK => ?_) AllReadyH.nil)
          go_simp
          refine (h3.out _).mono ?_
          rintro e wc3 ⟨rfl, hbw⟩
          refine hK.out _ _ (six_kept (Nat.le_refl _) hbw hHeld) (fun hHeld => ?_)
          clear hK K
          refine wpAnyH_take (i := 19) (oi := { dst := some 23, op := _, type := _, pos := _, after := _, guard := _ }) rfl (by kernel_rfl) (by kernel_rfl) (by kernel_rfl) (fun _ _ _ h => h) (Or.inl ⟨by rfl, fun w _ => by have hss := @run_string_add_sum Tryz.prog w (strOfNums [2] ++ v1 ++ v2) (v3) n3; go_simp; rfl⟩) hHeld ?_
          simp only [Act.put, List.setIfInBounds_toArray, List.set_cons_zero, List.set_cons_succ]
          refine wpAnyH_ready (rs := [22]) (by kernel_rfl) (by simp) (AllReadyH.cons (o := { dst := some 26, op := _, type := _, pos := _, after := _, guard := _ }) rfl (fun K hK => ?_) AllReadyH.nil)
          go_simp
          refine (h4.out _).mono ?_
          rintro e wc4 ⟨rfl, hbw⟩
          refine hK.out _ _ (six_kept (Nat.le_refl _) hbw hHeld) (fun hHeld => ?_)
          clear hK K
          refine wpAnyH_take (i := 23) (oi := { dst := some 27, op := _, type := _, pos := _, after := _, guard := _ }) rfl (by kernel_rfl) (by kernel_rfl) (by kernel_rfl) (fun _ _ _ h => h) (Or.inl ⟨by rfl, fun w _ => by have hss := @run_string_add_sum Tryz.prog w (strOfNums [2] ++ v1 ++ v2 ++ v3) (v4) n4; go_simp; rfl⟩) hHeld ?_
          simp only [Act.put, List.setIfInBounds_toArray, List.set_cons_zero, List.set_cons_succ]
          refine wpAnyH_ready (rs := [24]) (by kernel_rfl) (by simp) (AllReadyH.cons (o := { dst := some 3, op := _, type := _, pos := _, after := _, guard := _ }) rfl (fun K hK => ?_) AllReadyH.nil)
          go_simp
          refine hK.out _ _ hHeld (fun hHeld => ?_)
          clear hK K
          refine wpAnyH_done (by kernel_rfl) ?_ _
          obtain ⟨hBz, z0, z1, z2, z3, z4, z5⟩ := hHeld
          go_wp2
          go_ret
          exact ⟨rfl, hBz⟩
        · go_simp
          refine (h3.out _).mono ?_
          rintro e wc3 ⟨rfl, hbw⟩
          have q := (hbw.cell (block_lt_of_cell q)).trans q
          refine hK.out _ _ (six_kept (Nat.le_refl _) hbw hHeld) (fun hHeld => ?_)
          clear hK K
          refine wpAnyH_ready (rs := [4, 22]) (by kernel_rfl) (by simp) (AllReadyH.cons (o := { dst := some 8, op := _, type := _, pos := _, after := _, guard := _ }) rfl (fun K hK => ?_) (AllReadyH.cons (o := { dst := some 26, op := _, type := _, pos := _, after := _, guard := _ }) rfl (fun K hK => ?_) AllReadyH.nil))
          · have hq := conv_at _ _ _ q
            go_simp
            clear hq
            refine hK.out _ _ hHeld (fun hHeld => ?_)
            clear hK K
            refine wpAnyH_take (i := 9) (oi := { dst := some 13, op := _, type := _, pos := _, after := _, guard := _ }) rfl (by kernel_rfl) (by kernel_rfl) (by kernel_rfl) (fun _ _ _ h => h) (Or.inl ⟨by rfl, fun w _ => by have hss := @run_string_add_sum Tryz.prog w (strOfNums [2]) (v1) n1; go_simp; rfl⟩) hHeld ?_
            simp only [Act.put, List.setIfInBounds_toArray, List.set_cons_zero, List.set_cons_succ]
            refine wpAnyH_take (i := 14) (oi := { dst := some 18, op := _, type := _, pos := _, after := _, guard := _ }) rfl (by kernel_rfl) (by kernel_rfl) (by kernel_rfl) (fun _ _ _ h => h) (Or.inl ⟨by rfl, fun w _ => by have hss := @run_string_add_sum Tryz.prog w (strOfNums [2] ++ v1) (v2) n2; go_simp; rfl⟩) hHeld ?_
            simp only [Act.put, List.setIfInBounds_toArray, List.set_cons_zero, List.set_cons_succ]
            refine wpAnyH_take (i := 19) (oi := { dst := some 23, op := _, type := _, pos := _, after := _, guard := _ }) rfl (by kernel_rfl) (by kernel_rfl) (by kernel_rfl) (fun _ _ _ h => h) (Or.inl ⟨by rfl, fun w _ => by have hss := @run_string_add_sum Tryz.prog w (strOfNums [2] ++ v1 ++ v2) (v3) n3; go_simp; rfl⟩) hHeld ?_
            simp only [Act.put, List.setIfInBounds_toArray, List.set_cons_zero, List.set_cons_succ]
            refine wpAnyH_ready (rs := [22]) (by kernel_rfl) (by simp) (AllReadyH.cons (o := { dst := some 26, op := _, type := _, pos := _, after := _, guard := _ }) rfl (fun K hK => ?_) AllReadyH.nil)
            go_simp
            refine (h4.out _).mono ?_
            rintro e wc4 ⟨rfl, hbw⟩
            refine hK.out _ _ (six_kept (Nat.le_refl _) hbw hHeld) (fun hHeld => ?_)
            clear hK K
            refine wpAnyH_take (i := 23) (oi := { dst := some 27, op := _, type := _, pos := _, after := _, guard := _ }) rfl (by kernel_rfl) (by kernel_rfl) (by kernel_rfl) (fun _ _ _ h => h) (Or.inl ⟨by rfl, fun w _ => by have hss := @run_string_add_sum Tryz.prog w (strOfNums [2] ++ v1 ++ v2 ++ v3) (v4) n4; go_simp; rfl⟩) hHeld ?_
            simp only [Act.put, List.setIfInBounds_toArray, List.set_cons_zero, List.set_cons_succ]
            refine wpAnyH_ready (rs := [24]) (by kernel_rfl) (by simp) (AllReadyH.cons (o := { dst := some 3, op := _, type := _, pos := _, after := _, guard := _ }) rfl (fun K hK => ?_) AllReadyH.nil)
            go_simp
            refine hK.out _ _ hHeld (fun hHeld => ?_)
            clear hK K
            refine wpAnyH_done (by kernel_rfl) ?_ _
            obtain ⟨hBz, z0, z1, z2, z3, z4, z5⟩ := hHeld
            go_wp2
            go_ret
            exact ⟨rfl, hBz⟩
          · go_simp
            refine (h4.out _).mono ?_
            rintro e wc4 ⟨rfl, hbw⟩
            have q := (hbw.cell (block_lt_of_cell q)).trans q
            refine hK.out _ _ (six_kept (Nat.le_refl _) hbw hHeld) (fun hHeld => ?_)
            clear hK K
            refine wpAnyH_ready (rs := [4]) (by kernel_rfl) (by simp) (AllReadyH.cons (o := { dst := some 8, op := _, type := _, pos := _, after := _, guard := _ }) rfl (fun K hK => ?_) AllReadyH.nil)
            have hq := conv_at _ _ _ q
            go_simp
            clear hq
            refine hK.out _ _ hHeld (fun hHeld => ?_)
            clear hK K
            refine wpAnyH_take (i := 9) (oi := { dst := some 13, op := _, type := _, pos := _, after := _, guard := _ }) rfl (by kernel_rfl) (by kernel_rfl) (by kernel_rfl) (fun _ _ _ h => h) (Or.inl ⟨by rfl, fun w _ => by have hss := @run_string_add_sum Tryz.prog w (strOfNums [2]) (v1) n1; go_simp; rfl⟩) hHeld ?_
            simp only [Act.put, List.setIfInBounds_toArray, List.set_cons_zero, List.set_cons_succ]
            refine wpAnyH_take (i := 14) (oi := { dst := some 18, op := _, type := _, pos := _, after := _, guard := _ }) rfl (by kernel_rfl) (by kernel_rfl) (by kernel_rfl) (fun _ _ _ h => h) (Or.inl ⟨by rfl, fun w _ => by have hss := @run_string_add_sum Tryz.prog w (strOfNums [2] ++ v1) (v2) n2; go_simp; rfl⟩) hHeld ?_
            simp only [Act.put, List.setIfInBounds_toArray, List.set_cons_zero, List.set_cons_succ]
            refine wpAnyH_take (i := 19) (oi := { dst := some 23, op := _, type := _, pos := _, after := _, guard := _ }) rfl (by kernel_rfl) (by kernel_rfl) (by kernel_rfl) (fun _ _ _ h => h) (Or.inl ⟨by rfl, fun w _ => by have hss := @run_string_add_sum Tryz.prog w (strOfNums [2] ++ v1 ++ v2) (v3) n3; go_simp; rfl⟩) hHeld ?_
            simp only [Act.put, List.setIfInBounds_toArray, List.set_cons_zero, List.set_cons_succ]
            refine wpAnyH_take (i := 23) (oi := { dst := some 27, op := _, type := _, pos := _, after := _, guard := _ }) rfl (by kernel_rfl) (by kernel_rfl) (by kernel_rfl) (fun _ _ _ h => h) (Or.inl ⟨by rfl, fun w _ => by have hss := @run_string_add_sum Tryz.prog w (strOfNums [2] ++ v1 ++ v2 ++ v3) (v4) n4; go_simp; rfl⟩) hHeld ?_
            simp only [Act.put, List.setIfInBounds_toArray, List.set_cons_zero, List.set_cons_succ]
            refine wpAnyH_ready (rs := [24]) (by kernel_rfl) (by simp) (AllReadyH.cons (o := { dst := some 3, op := _, type := _, pos := _, after := _, guard := _ }) rfl (fun K hK => ?_) AllReadyH.nil)
            go_simp
            refine hK.out _ _ hHeld (fun hHeld => ?_)
            clear hK K
            refine wpAnyH_done (by kernel_rfl) ?_ _
            obtain ⟨hBz, z0, z1, z2, z3, z4, z5⟩ := hHeld
            go_wp2
            go_ret
            exact ⟨rfl, hBz⟩
      · go_simp
        refine (h3.out _).mono ?_
        rintro e wc3 ⟨rfl, hbw⟩
        refine hK.out _ _ (six_kept (Nat.le_refl _) hbw hHeld) (fun hHeld => ?_)
        clear hK K
        refine wpAnyH_ready (rs := [3, 22]) (by kernel_rfl) (by simp) (AllReadyH.cons (o := { dst := some 7, op := _, type := _, pos := _, after := _, guard := _ }) rfl (fun K hK => ?_) (AllReadyH.cons (o := { dst := some 26, op := _, type := _, pos := _, after := _, guard := _ }) rfl (fun K hK => ?_) AllReadyH.nil))
        · go_simp
          have q := alloc_cell wc3 (.int .u8 2) 5
          refine hK.out _ _ (six_alloc (Nat.le_refl _) hHeld _) (fun hHeld => ?_)
          clear hK K
          refine wpAnyH_ready (rs := [4, 22]) (by kernel_rfl) (by simp) (AllReadyH.cons (o := { dst := some 8, op := _, type := _, pos := _, after := _, guard := _ }) rfl (fun K hK => ?_) (AllReadyH.cons (o := { dst := some 26, op := _, type := _, pos := _, after := _, guard := _ }) rfl (fun K hK => ?_) AllReadyH.nil))
          · have hq := conv_at _ _ _ q
            go_simp
            clear hq
            refine hK.out _ _ hHeld (fun hHeld => ?_)
            clear hK K
            refine wpAnyH_take (i := 9) (oi := { dst := some 13, op := _, type := _, pos := _, after := _, guard := _ }) rfl (by kernel_rfl) (by kernel_rfl) (by kernel_rfl) (fun _ _ _ h => h) (Or.inl ⟨by rfl, fun w _ => by have hss := @run_string_add_sum Tryz.prog w (strOfNums [2]) (v1) n1; go_simp; rfl⟩) hHeld ?_
            simp only [Act.put, List.setIfInBounds_toArray, List.set_cons_zero, List.set_cons_succ]
            refine wpAnyH_take (i := 14) (oi := { dst := some 18, op := _, type := _, pos := _, after := _, guard := _ }) rfl (by kernel_rfl) (by kernel_rfl) (by kernel_rfl) (fun _ _ _ h => h) (Or.inl ⟨by rfl, fun w _ => by have hss := @run_string_add_sum Tryz.prog w (strOfNums [2] ++ v1) (v2) n2; go_simp; rfl⟩) hHeld ?_
            simp only [Act.put, List.setIfInBounds_toArray, List.set_cons_zero, List.set_cons_succ]
            refine wpAnyH_take (i := 19) (oi := { dst := some 23, op := _, type := _, pos := _, after := _, guard := _ }) rfl (by kernel_rfl) (by kernel_rfl) (by kernel_rfl) (fun _ _ _ h => h) (Or.inl ⟨by rfl, fun w _ => by have hss := @run_string_add_sum Tryz.prog w (strOfNums [2] ++ v1 ++ v2) (v3) n3; go_simp; rfl⟩) hHeld ?_
            simp only [Act.put, List.setIfInBounds_toArray, List.set_cons_zero, List.set_cons_succ]
            refine wpAnyH_ready (rs := [22]) (by kernel_rfl) (by simp) (AllReadyH.cons (o := { dst := some 26, op := _, type := _, pos := _, after := _, guard := _ }) rfl (fun K hK => ?_) AllReadyH.nil)
            go_simp
            refine (h4.out _).mono ?_
            rintro e wc4 ⟨rfl, hbw⟩
            refine hK.out _ _ (six_kept (Nat.le_refl _) hbw hHeld) (fun hHeld => ?_)
            clear hK K
            refine wpAnyH_take (i := 23) (oi := { dst := some 27, op := _, type := _, pos := _, after := _, guard := _ }) rfl (by kernel_rfl) (by kernel_rfl) (by kernel_rfl) (fun _ _ _ h => h) (Or.inl ⟨by rfl, fun w _ => by have hss := @run_string_add_sum Tryz.prog w (strOfNums [2] ++ v1 ++ v2 ++ v3) (v4) n4; go_simp; rfl⟩) hHeld ?_
            simp only [Act.put, List.setIfInBounds_toArray, List.set_cons_zero, List.set_cons_succ]
            refine wpAnyH_ready (rs := [24]) (by kernel_rfl) (by simp) (AllReadyH.cons (o := { dst := some 3, op := _, type := _, pos := _, after := _, guard := _ }) rfl (fun K hK => ?_) AllReadyH.nil)
            go_simp
            refine hK.out _ _ hHeld (fun hHeld => ?_)
            clear hK K
            refine wpAnyH_done (by kernel_rfl) ?_ _
            obtain ⟨hBz, z0, z1, z2, z3, z4, z5⟩ := hHeld
            go_wp2
            go_ret
            exact ⟨rfl, hBz⟩
          · go_simp
            refine (h4.out _).mono ?_
            rintro e wc4 ⟨rfl, hbw⟩
            have q := (hbw.cell (block_lt_of_cell q)).trans q
            refine hK.out _ _ (six_kept (Nat.le_refl _) hbw hHeld) (fun hHeld => ?_)
            clear hK K
            refine wpAnyH_ready (rs := [4]) (by kernel_rfl) (by simp) (AllReadyH.cons (o := { dst := some 8, op := _, type := _, pos := _, after := _, guard := _ }) rfl (fun K hK => ?_) AllReadyH.nil)
            have hq := conv_at _ _ _ q
            go_simp
            clear hq
            refine hK.out _ _ hHeld (fun hHeld => ?_)
            clear hK K
            refine wpAnyH_take (i := 9) (oi := { dst := some 13, op := _, type := _, pos := _, after := _, guard := _ }) rfl (by kernel_rfl) (by kernel_rfl) (by kernel_rfl) (fun _ _ _ h => h) (Or.inl ⟨by rfl, fun w _ => by have hss := @run_string_add_sum Tryz.prog w (strOfNums [2]) (v1) n1; go_simp; rfl⟩) hHeld ?_
            simp only [Act.put, List.setIfInBounds_toArray, List.set_cons_zero, List.set_cons_succ]
            refine wpAnyH_take (i := 14) (oi := { dst := some 18, op := _, type := _, pos := _, after := _, guard := _ }) rfl (by kernel_rfl) (by kernel_rfl) (by kernel_rfl) (fun _ _ _ h => h) (Or.inl ⟨by rfl, fun w _ => by have hss := @run_string_add_sum Tryz.prog w (strOfNums [2] ++ v1) (v2) n2; go_simp; rfl⟩) hHeld ?_
            simp only [Act.put, List.setIfInBounds_toArray, List.set_cons_zero, List.set_cons_succ]
            refine wpAnyH_take (i := 19) (oi := { dst := some 23, op := _, type := _, pos := _, after := _, guard := _ }) rfl (by kernel_rfl) (by kernel_rfl) (by kernel_rfl) (fun _ _ _ h => h) (Or.inl ⟨by rfl, fun w _ => by have hss := @run_string_add_sum Tryz.prog w (strOfNums [2] ++ v1 ++ v2) (v3) n3; go_simp; rfl⟩) hHeld ?_
            simp only [Act.put, List.setIfInBounds_toArray, List.set_cons_zero, List.set_cons_succ]
            refine wpAnyH_take (i := 23) (oi := { dst := some 27, op := _, type := _, pos := _, after := _, guard := _ }) rfl (by kernel_rfl) (by kernel_rfl) (by kernel_rfl) (fun _ _ _ h => h) (Or.inl ⟨by rfl, fun w _ => by have hss := @run_string_add_sum Tryz.prog w (strOfNums [2] ++ v1 ++ v2 ++ v3) (v4) n4; go_simp; rfl⟩) hHeld ?_
            simp only [Act.put, List.setIfInBounds_toArray, List.set_cons_zero, List.set_cons_succ]
            refine wpAnyH_ready (rs := [24]) (by kernel_rfl) (by simp) (AllReadyH.cons (o := { dst := some 3, op := _, type := _, pos := _, after := _, guard := _ }) rfl (fun K hK => ?_) AllReadyH.nil)
            go_simp
            refine hK.out _ _ hHeld (fun hHeld => ?_)
            clear hK K
            refine wpAnyH_done (by kernel_rfl) ?_ _
            obtain ⟨hBz, z0, z1, z2, z3, z4, z5⟩ := hHeld
            go_wp2
            go_ret
            exact ⟨rfl, hBz⟩
        · go_simp
          refine (h4.out _).mono ?_
          rintro e wc4 ⟨rfl, hbw⟩
          refine hK.out _ _ (six_kept (Nat.le_refl _) hbw hHeld) (fun hHeld => ?_)
          clear hK K
          refine wpAnyH_ready (rs := [3]) (by kernel_rfl) (by simp) (AllReadyH.cons (o := { dst := some 7, op := _, type := _, pos := _, after := _, guard := _ }) rfl (fun K hK => ?_) AllReadyH.nil)
          go_simp
          have q := alloc_cell wc4 (.int .u8 2) 5
          refine hK.out _ _ (six_alloc (Nat.le_refl _) hHeld _) (fun hHeld => ?_)
          clear hK K
          refine wpAnyH_ready (rs := [4]) (by kernel_rfl) (by simp) (AllReadyH.cons (o := { dst := some 8, op := _, type := _, pos := _, after := _, guard := _ }) rfl (fun K hK => ?_) AllReadyH.nil)
          have hq := conv_at _ _ _ q
          go_simp
          clear hq
          refine hK.out _ _ hHeld (fun hHeld => ?_)
          clear hK K
          refine wpAnyH_take (i := 9) (oi := { dst := some 13, op := _, type := _, pos := _, after := _, guard := _ }) rfl (by kernel_rfl) (by kernel_rfl) (by kernel_rfl) (fun _ _ _ h => h) (Or.inl ⟨by rfl, fun w _ => by have hss := @run_string_add_sum Tryz.prog w (strOfNums [2]) (v1) n1; go_simp; rfl⟩) hHeld ?_
          simp only [Act.put, List.setIfInBounds_toArray, List.set_cons_zero, List.set_cons_succ]
          refine wpAnyH_take (i := 14) (oi := { dst := some 18, op := _, type := _, pos := _, after := _, guard := _ }) rfl (by kernel_rfl) (by kernel_rfl) (by kernel_rfl) (fun _ _ _ h => h) (Or.inl ⟨by rfl, fun w _ => by have hss := @run_string_add_sum Tryz.prog w (strOfNums [2] ++ v1) (v2) n2; go_simp; rfl⟩) hHeld ?_
          simp only [Act.put, List.setIfInBounds_toArray, List.set_cons_zero, List.set_cons_succ]
          refine wpAnyH_take (i := 19) (oi := { dst := some 23, op := _, type := _, pos := _, after := _, guard := _ }) rfl (by kernel_rfl) (by kernel_rfl) (by kernel_rfl) (fun _ _ _ h => h) (Or.inl ⟨by rfl, fun w _ => by have hss := @run_string_add_sum Tryz.prog w (strOfNums [2] ++ v1 ++ v2) (v3) n3; go_simp; rfl⟩) hHeld ?_
          simp only [Act.put, List.setIfInBounds_toArray, List.set_cons_zero, List.set_cons_succ]
          refine wpAnyH_take (i := 23) (oi := { dst := some 27, op := _, type := _, pos := _, after := _, guard := _ }) rfl (by kernel_rfl) (by kernel_rfl) (by kernel_rfl) (fun _ _ _ h => h) (Or.inl ⟨by rfl, fun w _ => by have hss := @run_string_add_sum Tryz.prog w (strOfNums [2] ++ v1 ++ v2 ++ v3) (v4) n4; go_simp; rfl⟩) hHeld ?_
          simp only [Act.put, List.setIfInBounds_toArray, List.set_cons_zero, List.set_cons_succ]
          refine wpAnyH_ready (rs := [24]) (by kernel_rfl) (by simp) (AllReadyH.cons (o := { dst := some 3, op := _, type := _, pos := _, after := _, guard := _ }) rfl (fun K hK => ?_) AllReadyH.nil)
          go_simp
          refine hK.out _ _ hHeld (fun hHeld => ?_)
          clear hK K
          refine wpAnyH_done (by kernel_rfl) ?_ _
          obtain ⟨hBz, z0, z1, z2, z3, z4, z5⟩ := hHeld
          go_wp2
          go_ret
          exact ⟨rfl, hBz⟩
end Go.Proofs.YtgccjefbedpmpaaGreatDoor

import Derived.Test.YtgccjefbedpmpaaGreatDoorZByts
import Derived.Test.YtgccjefbedpmpaaGreatDoorGRSum
namespace Go.Proofs.YtgccjefbedpmpaaGreatDoor
open Go.RowKit
theorem rsumOf_size (s : ByteArray) : (rsumOf s).size = 32 := by
  unfold rsumOf; rw [strOfNums_size]; simp [outL]
set_option maxRecDepth 100000 in
set_option maxHeartbeats 1000000 in
theorem short_any (s : ByteArray) (hs : s.size ≤ 140737488355328) (w : World) : Calls Tryz.prog 75 #[.agg (rowOf 72 fun j => .int .u32 (RV j)), .string s] w fun e w' => e = .returned (.string ((rsumOf s).extract 0 3)) ∧ Below w.heap.size w w' := by
  have h32 := rsumOf_size s
  go_enter Tryz.func75, Tryz.ntmps75
  have HR : Hid ((w.alloc (.cells (rowOf 72 fun j => .int .u32 (RV j)) 80)).rangeAt w.heap.size 0 (rowOf 72 fun j => .int .u32 (RV j)).toList) := range72 (RowIs.new _ _ _ _)
  go_wp2_with (first
    | (refine wpList_load_mid rfl 80 (.tmp 2) rfl w.heap.size 0 rfl _ _ HR.out Tryz.underlying80 rfl (by rw [Array.length_toList, rowOf_size]; exact info30) ?_; simp only [Array.toArray_toList])
    | (go_at_call 125; refine (rsum_any s hs _).mono ?_; rintro e w1 ⟨rfl, hb1⟩; generalize hRR : rsumOf s = R at h32 ⊢; have HRR : Hid (rsumOf s = R) := hRR; clear hRR))
  go_ret
  exact ⟨by rw [HRR.out]; rfl, ((Below.refl _ _).alloc (Nat.le_refl _) _).trans (hb1.mono (by simp))⟩
theorem short_w (s : ByteArray) (hs : s.size ≤ 140737488355328) (w : World) : Calls Tryz.prog 75 #[.agg (rowOf 72 fun j => .int .u32 (RV j)), .string s] w fun e w' => (∃ b : ByteArray, e = .returned (.string b) ∧ b.size ≤ 3) ∧ Below w.heap.size w w' := by
  refine (short_any s hs w).mono ?_
  rintro e w' ⟨rfl, hb⟩
  exact ⟨⟨_, rfl, by rw [ByteArray.size_extract]; omega⟩, hb⟩
theorem conv3 (W : World) (g : Nat) (h4 : W.cell? ⟨g, 4, none⟩ = some (.int .u8 0)) (h5 : W.cell? ⟨g, 5, none⟩ = some (.int .u8 0)) (h6 : W.cell? ⟨g, 6, none⟩ = some (.int .u8 0)) : (convert 59 9 (.slice (some ⟨g, 4, none⟩) 3 3)).run Tryz.prog W = .ok (.string (strOfNums [0, 0, 0])) W :=
  run_convert_bytes_arg W 59 5 Tryz.underlying59 Tryz.underlying5 g 4 3 3 [0, 0, 0] rfl (fun i hi => by
    match i, hi with
    | 0, _ => exact h4
    | 1, _ => exact h5
    | 2, _ => exact h6) _ Tryz.underlying9
theorem varint_w (x : Int) (h0 : 0 ≤ x) (h1 : x < 18446744073709551616) (w : World) :
    Calls Tryz.prog 73 #[.int .u64 x] w fun e w' => (∃ b : ByteArray, e = .returned (.string b) ∧ b.size ≤ 10) ∧ Below w.heap.size w w' := by
  have h := varint_any x.toNat (by omega) w
  rw [Int.toNat_of_nonneg h0] at h
  refine h.mono ?_
  rintro e w' ⟨rfl, hb⟩
  have := vb_size 9 x.toNat (by omega)
  exact ⟨⟨_, rfl, by omega⟩, hb⟩
theorem size1 (x : Int) : (strOfNums [x]).size ≤ 10 := by rw [strOfNums_size]; simp
theorem bytesA_w (w : World) : Calls Tryz.prog 74 #[.agg #[.int .i64 1, .int .u32 1, .int .u32 1, .int .u32 1, .int .u64 0, .int .i32 97]] w fun e w' => (∃ b : ByteArray, e = .returned (.string b) ∧ b.size ≤ 100) ∧ Below w.heap.size w w' := by
  refine (bytes_gen 1 1 1 0 97 _ _ _ _ _ (fun W => varint_small 1 (by decide) (by decide) W) (fun W => varint_small 1 (by decide) (by decide) W) (fun W => varint_small 1 (by decide) (by decide) W) (fun W => varint_small 0 (by decide) (by decide) W) (fun W => varint_small 97 (by decide) (by decide) W) (size1 _) (size1 _) (size1 _) (size1 _) (size1 _) rfl rfl rfl rfl w).mono ?_
  rintro e w' ⟨rfl, hb⟩
  exact ⟨⟨_, rfl, by simp only [ByteArray.size_append, strOfNums_size, List.length]; omega⟩, hb⟩
theorem bytesB_w (w : World) : Calls Tryz.prog 74 #[.agg #[.int .i64 1, .int .u32 1, .int .u32 2, .int .u32 2, .int .u64 1048577, .int .i32 98]] w fun e w' => (∃ b : ByteArray, e = .returned (.string b) ∧ b.size ≤ 100) ∧ Below w.heap.size w w' := by
  refine (bytes_gen 1 2 2 1048577 98 _ _ _ _ _ (fun W => varint_small 1 (by decide) (by decide) W) (fun W => varint_small 2 (by decide) (by decide) W) (fun W => varint_small 2 (by decide) (by decide) W) (fun W => varint_key W) (fun W => varint_small 98 (by decide) (by decide) W) (size1 _) (size1 _) (size1 _) (by simp only [ByteArray.size_append, strOfNums_size, List.length]; omega) (size1 _) rfl rfl rfl rfl w).mono ?_
  rintro e w' ⟨rfl, hb⟩
  exact ⟨⟨_, rfl, by simp only [ByteArray.size_append, strOfNums_size, List.length]; omega⟩, hb⟩
/-- What lies in memory while a frame is packed. -/
structure PS (w w' : World) (k s lo hi ops : Value) : Prop where
  below : Below w.heap.size w w'
  roots : RowIs w' w.heap.size 80 72 fun j => .int .u32 (RV j)
  cells : w'.cell? ⟨w.heap.size + 1, 0, none⟩ = some (k) ∧ w'.cell? ⟨w.heap.size + 1, 1, none⟩ = some (s) ∧ w'.cell? ⟨w.heap.size + 1, 2, none⟩ = some (lo) ∧ w'.cell? ⟨w.heap.size + 1, 3, none⟩ = some (hi) ∧ w'.cell? ⟨w.heap.size + 1, 4, none⟩ = some (.int .u8 0) ∧ w'.cell? ⟨w.heap.size + 1, 5, none⟩ = some (.int .u8 0) ∧ w'.cell? ⟨w.heap.size + 1, 6, none⟩ = some (.int .u8 0) ∧ w'.cell? ⟨w.heap.size + 1, 7, none⟩ = some (ops)
section
variable {w W w2 : World} {k s lo hi ops : Value}
theorem PS.kept (h : PS w W k s lo hi ops) (hb : Below W.heap.size W w2) : PS w w2 k s lo hi ops :=
  ⟨h.below.trans (hb.mono h.below.size), h.roots.below hb h.roots.lt, (hb.cell (block_lt_of_cell h.cells.1)).trans h.cells.1, (hb.cell (block_lt_of_cell h.cells.2.1)).trans h.cells.2.1, (hb.cell (block_lt_of_cell h.cells.2.2.1)).trans h.cells.2.2.1, (hb.cell (block_lt_of_cell h.cells.2.2.2.1)).trans h.cells.2.2.2.1, (hb.cell (block_lt_of_cell h.cells.2.2.2.2.1)).trans h.cells.2.2.2.2.1, (hb.cell (block_lt_of_cell h.cells.2.2.2.2.2.1)).trans h.cells.2.2.2.2.2.1, (hb.cell (block_lt_of_cell h.cells.2.2.2.2.2.2.1)).trans h.cells.2.2.2.2.2.2.1, (hb.cell (block_lt_of_cell h.cells.2.2.2.2.2.2.2)).trans h.cells.2.2.2.2.2.2.2⟩
theorem PS.alloc (h : PS w W k s lo hi ops) (o : Obj) : PS w (W.alloc o) k s lo hi ops := h.kept ((Below.refl _ _).alloc (Nat.le_refl _) o)
theorem PS.drew (h : PS w W k s lo hi ops) : PS w W.drew k s lo hi ops := ⟨h.below.drew, h.roots, h.cells⟩
theorem PS.start (w : World) (k s lo hi ops : Value) : PS w ((w.alloc (.cells (rowOf 72 fun j => .int .u32 (RV j)) 80)).alloc (.cells #[k, s, lo, hi, .int .u8 0, .int .u8 0, .int .u8 0, ops] 58)) k s lo hi ops := by
  have hs : (w.alloc (.cells (rowOf 72 fun j => .int .u32 (RV j)) 80)).heap.size = w.heap.size + 1 := by simp
  have hc := heap_alloc_new (w.alloc (.cells (rowOf 72 fun j => .int .u32 (RV j)) 80)) (.cells #[k, s, lo, hi, .int .u8 0, .int .u8 0, .int .u8 0, ops] 58)
  rw [hs] at hc
  refine ⟨((Below.refl _ _).alloc (Nat.le_refl _) _).alloc (by simp) _, (RowIs.new w 80 72 _).below ((Below.refl _ _).alloc (Nat.le_refl _) _) (by simp), ?_⟩
  exact ⟨(cell_of_row _ _ _ _ _ _ hc).trans rfl, (cell_of_row _ _ _ _ _ _ hc).trans rfl, (cell_of_row _ _ _ _ _ _ hc).trans rfl, (cell_of_row _ _ _ _ _ _ hc).trans rfl, (cell_of_row _ _ _ _ _ _ hc).trans rfl, (cell_of_row _ _ _ _ _ _ hc).trans rfl, (cell_of_row _ _ _ _ _ _ hc).trans rfl, (cell_of_row _ _ _ _ _ _ hc).trans rfl⟩
end
set_option maxRecDepth 100000 in
set_option maxHeartbeats 4000000 in
theorem pack1 (g : Nat) (w : World) (hrA : w.rangeAt g 0 [.int .i64 1, .int .u32 1, .int .u32 1, .int .u32 1, .int .u64 0, .int .i32 97]) (hrB : w.rangeAt g 6 [.int .i64 1, .int .u32 1, .int .u32 2, .int .u32 2, .int .u64 1048577, .int .i32 98]) (hg : g < w.heap.size) : Calls Tryz.prog 42 #[.agg (rowOf 72 fun j => .int .u32 (RV j)), .agg #[.int .i64 5, .int .u32 1, .int .u64 0, .int .u64 0, .int .u8 0, .int .u8 0, .int .u8 0, .slice (some ⟨g, 0, none⟩) 2 2]] w fun e w' => (∃ b : ByteArray, e = .returned (.tuple #[.string b, .int .i64 0]) ∧ 1 ≤ b.size ∧ b.size ≤ 1000) ∧ Below w.heap.size w w' := by
  have y1 : IntKind.u8.wrap 5 = 5 := rfl
  have y2 : IntKind.u64.wrap 1 = 1 := rfl
  have n1 : (strOfNums [5]).size + (strOfNums [1]).size ≤ 9223372036854775807 := by simp only [strOfNums_size, List.length]; omega
  have hps := PS.start w (.int .i64 5) (.int .u32 1) (.int .u64 0) (.int .u64 0) (.slice (some ⟨g, 0, none⟩) 2 2)
  go_enter Tryz.func42, Tryz.ntmps42
  go_wp2_with (first
    | (go_at_call 72; refine (isFrame1 g _ (range_below hrA (((Below.refl w.heap.size w).alloc (Nat.le_refl _) _).alloc (by simp) _) hg) (range_below hrB (((Below.refl w.heap.size w).alloc (Nat.le_refl _) _).alloc (by simp) _) hg) (Nat.lt_of_lt_of_le hg (((Below.refl w.heap.size w).alloc (Nat.le_refl _) _).alloc (by simp) _).size)).mono ?_; rintro e w1 ⟨rfl, hb1⟩; have hp1 := hps.kept hb1; clear hps))
  refine wp_region_held_drew (S := fun w' => PS w w' (.int .i64 5) (.int .u32 1) (.int .u64 0) (.int .u64 0) (.slice (some ⟨g, 0, none⟩) 2 2)) (by kernel_rfl) hp1.drew (fun hHeld => ?_)
  generalize World.drew _ = wD at hHeld ⊢
  refine wpAnyH_take (i := 0) (oi := { dst := some 14, op := _, type := _, pos := _, after := _, guard := _ }) rfl (by kernel_rfl) (by kernel_rfl) (by kernel_rfl) (fun _ _ _ h => h) (Or.inl ⟨by rfl, fun w hS => by obtain ⟨c0, c1, c2, c3, c4, c5, c6, c7⟩ := hS.cells; go_simp; rfl⟩) hHeld ?_
  simp only [Act.put, List.setIfInBounds_toArray, List.set_cons_zero, List.set_cons_succ]
  refine wpAnyH_take (i := 1) (oi := { dst := some 15, op := _, type := _, pos := _, after := _, guard := _ }) rfl (by kernel_rfl) (by kernel_rfl) (by kernel_rfl) (fun _ _ _ h => h) (Or.inl ⟨by rfl, fun w hS => by obtain ⟨c0, c1, c2, c3, c4, c5, c6, c7⟩ := hS.cells; go_simp; rfl⟩) hHeld ?_
  simp only [Act.put, List.setIfInBounds_toArray, List.set_cons_zero, List.set_cons_succ]
  refine wpAnyH_take (i := 2) (oi := { dst := some 16, op := _, type := _, pos := _, after := _, guard := _ }) rfl (by kernel_rfl) (by kernel_rfl) (by kernel_rfl) (fun _ _ _ h => h) (Or.inl ⟨by rfl, fun w hS => by obtain ⟨c0, c1, c2, c3, c4, c5, c6, c7⟩ := hS.cells; go_simp; rfl⟩) hHeld ?_
  simp only [Act.put, List.setIfInBounds_toArray, List.set_cons_zero, List.set_cons_succ]
  refine wpAnyH_take (i := 5) (oi := { dst := some 19, op := _, type := _, pos := _, after := _, guard := _ }) rfl (by kernel_rfl) (by kernel_rfl) (by kernel_rfl) (fun _ _ _ h => h) (Or.inl ⟨by rfl, fun w hS => by obtain ⟨c0, c1, c2, c3, c4, c5, c6, c7⟩ := hS.cells; go_simp; rfl⟩) hHeld ?_
  simp only [Act.put, List.setIfInBounds_toArray, List.set_cons_zero, List.set_cons_succ]
  refine wpAnyH_take (i := 6) (oi := { dst := some 20, op := _, type := _, pos := _, after := _, guard := _ }) rfl (by kernel_rfl) (by kernel_rfl) (by kernel_rfl) (fun _ _ _ h => h) (Or.inl ⟨by rfl, fun w hS => by obtain ⟨c0, c1, c2, c3, c4, c5, c6, c7⟩ := hS.cells; go_simp; rfl⟩) hHeld ?_
  simp only [Act.put, List.setIfInBounds_toArray, List.set_cons_zero, List.set_cons_succ]
  refine wpAnyH_take (i := 7) (oi := { dst := some 21, op := _, type := _, pos := _, after := _, guard := _ }) rfl (by kernel_rfl) (by kernel_rfl) (by kernel_rfl) (fun _ _ _ h => h) (Or.inl ⟨by rfl, fun w hS => by obtain ⟨c0, c1, c2, c3, c4, c5, c6, c7⟩ := hS.cells; go_simp; rfl⟩) hHeld ?_
  simp only [Act.put, List.setIfInBounds_toArray, List.set_cons_zero, List.set_cons_succ]
  refine wpAnyH_ready (rs := [3, 8]) (by kernel_rfl) (by simp) (AllReadyH.cons (o := { dst := some 17, op := _, type := _, pos := _, after := _, guard := _ }) rfl (fun K hK => ?_) (AllReadyH.cons (o := { dst := some 22, op := _, type := _, pos := _, after := _, guard := _ }) rfl (fun K hK => ?_) AllReadyH.nil))
  · go_simp
    have q := alloc_cell wD (.int .u8 5) 5
    refine hK.out _ _ (hHeld.alloc _) (fun hHeld => ?_)
    clear hK K
    refine wpAnyH_ready (rs := [4, 8]) (by kernel_rfl) (by simp) (AllReadyH.cons (o := { dst := some 18, op := _, type := _, pos := _, after := _, guard := _ }) rfl (fun K hK => ?_) (AllReadyH.cons (o := { dst := some 22, op := _, type := _, pos := _, after := _, guard := _ }) rfl (fun K hK => ?_) AllReadyH.nil))
    · have hq := conv_at _ _ _ q
      go_simp
      clear hq
      refine hK.out _ _ hHeld (fun hHeld => ?_)
      clear hK K
      refine wpAnyH_ready (rs := [8]) (by kernel_rfl) (by simp) (AllReadyH.cons (o := { dst := some 22, op := _, type := _, pos := _, after := _, guard := _ }) rfl (fun K hK => ?_) AllReadyH.nil)
      go_simp
      refine (varint_small 1 (by decide) (by decide) _).mono ?_
      rintro e wc1 ⟨rfl, hbw⟩
      refine hK.out _ _ (hHeld.kept hbw) (fun hHeld => ?_)
      clear hK K
      refine wpAnyH_take (i := 9) (oi := { dst := some 23, op := _, type := _, pos := _, after := _, guard := _ }) rfl (by kernel_rfl) (by kernel_rfl) (by kernel_rfl) (fun _ _ _ h => h) (Or.inl ⟨by rfl, fun w _ => by have hss := @run_string_add_sum Tryz.prog w (strOfNums [5]) (strOfNums [1]) n1; go_simp; rfl⟩) hHeld ?_
      simp only [Act.put, List.setIfInBounds_toArray, List.set_cons_zero, List.set_cons_succ]
      refine wpAnyH_ready (rs := [10]) (by kernel_rfl) (by simp) (AllReadyH.cons (o := { dst := some 7, op := _, type := _, pos := _, after := _, guard := _ }) rfl (fun K hK => ?_) AllReadyH.nil)
      go_simp
      refine hK.out _ _ hHeld (fun hHeld => ?_)
      clear hK K
      refine wpAnyH_done (by kernel_rfl) ?_ _
      generalize hv : strOfNums [5] ++ strOfNums [1] = v
      have hvs : v.size = 2 := by rw [← hv]; simp only [ByteArray.size_append, strOfNums_size, List.length]
      clear hv
      obtain ⟨wE, hwE⟩ : ∃ x, x = wc1 := ⟨_, rfl⟩
      rw [← hwE] at hHeld ⊢
      clear hwE
      have hPE := hHeld
      clear hHeld
      obtain ⟨c0, c1, c2, c3, c4, c5, c6, c7⟩ := hPE.cells
      have hcv := conv_one
      have hss2 := fun W => @run_string_add_sum Tryz.prog W v (strOfNums [2]) (by rw [strOfNums_size, hvs]; decide)
      go_wp2
      have hPF := hPE.alloc (.cells #[.int .u8 2] 5)
      have hu0 : 2 ≤ (v ++ strOfNums [2]).size ∧ (v ++ strOfNums [2]).size ≤ 3 := by rw [ByteArray.size_append, strOfNums_size, hvs]; decide
      clear hPE c0 c1 c2 c3 c4 c5 c6 c7 hss2
      go_loopw [7, 8] (fun sv i wr => (∃ u : ByteArray, sv = .string u ∧ 2 ≤ u.size ∧ ((i = .int .i64 0 ∧ u.size ≤ 3) ∨ (i = .int .i64 1 ∧ u.size ≤ 103) ∨ (i = .int .i64 2 ∧ u.size ≤ 203))) ∧ PS w wr (.int .i64 5) (.int .u32 1) (.int .u64 0) (.int .u64 0) (.slice (some ⟨g, 0, none⟩) 2 2)) (fun _ i _ => 2 - (intOf i).toNat)
      case atStart => exact ⟨⟨_, rfl, hu0.1, Or.inl ⟨rfl, hu0.2⟩⟩, hPF⟩
      case round =>
        obtain ⟨⟨u, rfl, hu2, hi⟩, hP⟩ := hrel
        clear hPF hu0
        obtain ⟨c0, c1, c2, c3, c4, c5, c6, c7⟩ := hP.cells
        rcases hi with ⟨rfl, hu⟩ | ⟨rfl, hu⟩ | ⟨rfl, hu⟩
        · obtain ⟨r0, r1, r2, r3, r4, r5⟩ := cells0 (range_below hrA hP.below hg)
          go_wp2_with (first | (go_at_call 74; refine (bytesA_w _).mono ?_; rintro e w5 ⟨⟨b, rfl, hbs⟩, hb5⟩; have hss5 := fun W => @run_string_add_sum Tryz.prog W u b (by omega)))
          go_roundw
          case rel => exact ⟨⟨_, rfl, by rw [ByteArray.size_append]; omega, Or.inr (Or.inl ⟨rfl, by rw [ByteArray.size_append]; omega⟩)⟩, hP.kept hb5⟩
          case measure => simp [intOf]
        · obtain ⟨r0, r1, r2, r3, r4, r5⟩ := cells6 (range_below hrB hP.below hg)
          go_wp2_with (first | (go_at_call 74; refine (bytesB_w _).mono ?_; rintro e w5 ⟨⟨b, rfl, hbs⟩, hb5⟩; have hss5 := fun W => @run_string_add_sum Tryz.prog W u b (by omega)))
          go_roundw
          case rel => exact ⟨⟨_, rfl, by rw [ByteArray.size_append]; omega, Or.inr (Or.inr ⟨rfl, by rw [ByteArray.size_append]; omega⟩)⟩, hP.kept hb5⟩
          case measure => simp [intOf]
        · have HR : Hid (World.rangeAt _ w.heap.size 0 (rowOf 72 fun j => .int .u32 (RV j)).toList) := range72 hP.roots
          have hA : 2 ≤ (u).size ∧ (u).size ≤ 900 := ⟨hu2, by omega⟩
          go_wp2_with (first | (refine wpList_load_mid rfl 80 _ rfl w.heap.size 0 rfl _ _ HR.out Tryz.underlying80 rfl (by rw [Array.length_toList, rowOf_size]; exact info30) ?_; simp only [Array.toArray_toList]) | (go_at_call 75; refine (short_w _ (by omega) _).mono ?_; rintro e w9 ⟨⟨t, rfl, ht⟩, hb9⟩; have hss9 := fun W => @run_string_add_sum Tryz.prog W (u) t (by omega)))
          go_ret2
          exact ⟨⟨_, rfl, by rw [ByteArray.size_append]; omega, by rw [ByteArray.size_append]; omega⟩, (hP.kept hb9).below⟩
    · go_simp
      refine (varint_small 1 (by decide) (by decide) _).mono ?_
      rintro e wc1 ⟨rfl, hbw⟩
      have q := (hbw.cell (block_lt_of_cell q)).trans q
      refine hK.out _ _ (hHeld.kept hbw) (fun hHeld => ?_)
      clear hK K
      refine wpAnyH_ready (rs := [4]) (by kernel_rfl) (by simp) (AllReadyH.cons (o := { dst := some 18, op := _, type := _, pos := _, after := _, guard := _ }) rfl (fun K hK => ?_) AllReadyH.nil)
      have hq := conv_at _ _ _ q
      go_simp
      clear hq
      refine hK.out _ _ hHeld (fun hHeld => ?_)
      clear hK K
      refine wpAnyH_take (i := 9) (oi := { dst := some 23, op := _, type := _, pos := _, after := _, guard := _ }) rfl (by kernel_rfl) (by kernel_rfl) (by kernel_rfl) (fun _ _ _ h => h) (Or.inl ⟨by rfl, fun w _ => by have hss := @run_string_add_sum Tryz.prog w (strOfNums [5]) (strOfNums [1]) n1; go_simp; rfl⟩) hHeld ?_
      simp only [Act.put, List.setIfInBounds_toArray, List.set_cons_zero, List.set_cons_succ]
      refine wpAnyH_ready (rs := [10]) (by kernel_rfl) (by simp) (AllReadyH.cons (o := { dst := some 7, op := _, type := _, pos := _, after := _, guard := _ }) rfl (fun K hK => ?_) AllReadyH.nil)
      go_simp
      refine hK.out _ _ hHeld (fun hHeld => ?_)
      clear hK K
      refine wpAnyH_done (by kernel_rfl) ?_ _
      generalize hv : strOfNums [5] ++ strOfNums [1] = v
      have hvs : v.size = 2 := by rw [← hv]; simp only [ByteArray.size_append, strOfNums_size, List.length]
      clear hv
      obtain ⟨wE, hwE⟩ : ∃ x, x = wc1 := ⟨_, rfl⟩
      rw [← hwE] at hHeld ⊢
      clear hwE
      have hPE := hHeld
      clear hHeld
      obtain ⟨c0, c1, c2, c3, c4, c5, c6, c7⟩ := hPE.cells
      have hcv := conv_one
      have hss2 := fun W => @run_string_add_sum Tryz.prog W v (strOfNums [2]) (by rw [strOfNums_size, hvs]; decide)
      go_wp2
      have hPF := hPE.alloc (.cells #[.int .u8 2] 5)
      have hu0 : 2 ≤ (v ++ strOfNums [2]).size ∧ (v ++ strOfNums [2]).size ≤ 3 := by rw [ByteArray.size_append, strOfNums_size, hvs]; decide
      clear hPE c0 c1 c2 c3 c4 c5 c6 c7 hss2
      go_loopw [7, 8] (fun sv i wr => (∃ u : ByteArray, sv = .string u ∧ 2 ≤ u.size ∧ ((i = .int .i64 0 ∧ u.size ≤ 3) ∨ (i = .int .i64 1 ∧ u.size ≤ 103) ∨ (i = .int .i64 2 ∧ u.size ≤ 203))) ∧ PS w wr (.int .i64 5) (.int .u32 1) (.int .u64 0) (.int .u64 0) (.slice (some ⟨g, 0, none⟩) 2 2)) (fun _ i _ => 2 - (intOf i).toNat)
      case atStart => exact ⟨⟨_, rfl, hu0.1, Or.inl ⟨rfl, hu0.2⟩⟩, hPF⟩
      case round =>
        obtain ⟨⟨u, rfl, hu2, hi⟩, hP⟩ := hrel
        clear hPF hu0
        obtain ⟨c0, c1, c2, c3, c4, c5, c6, c7⟩ := hP.cells
        rcases hi with ⟨rfl, hu⟩ | ⟨rfl, hu⟩ | ⟨rfl, hu⟩
        · obtain ⟨r0, r1, r2, r3, r4, r5⟩ := cells0 (range_below hrA hP.below hg)
          go_wp2_with (first | (go_at_call 74; refine (bytesA_w _).mono ?_; rintro e w5 ⟨⟨b, rfl, hbs⟩, hb5⟩; have hss5 := fun W => @run_string_add_sum Tryz.prog W u b (by omega)))
          go_roundw
          case rel => exact ⟨⟨_, rfl, by rw [ByteArray.size_append]; omega, Or.inr (Or.inl ⟨rfl, by rw [ByteArray.size_append]; omega⟩)⟩, hP.kept hb5⟩
          case measure => simp [intOf]
        · obtain ⟨r0, r1, r2, r3, r4, r5⟩ := cells6 (range_below hrB hP.below hg)
          go_wp2_with (first | (go_at_call 74; refine (bytesB_w _).mono ?_; rintro e w5 ⟨⟨b, rfl, hbs⟩, hb5⟩; have hss5 := fun W => @run_string_add_sum Tryz.prog W u b (by omega)))
          go_roundw
          case rel => exact ⟨⟨_, rfl, by rw [ByteArray.size_append]; omega, Or.inr (Or.inr ⟨rfl, by rw [ByteArray.size_append]; omega⟩)⟩, hP.kept hb5⟩
          case measure => simp [intOf]
        · have HR : Hid (World.rangeAt _ w.heap.size 0 (rowOf 72 fun j => .int .u32 (RV j)).toList) := range72 hP.roots
          have hA : 2 ≤ (u).size ∧ (u).size ≤ 900 := ⟨hu2, by omega⟩
          go_wp2_with (first | (refine wpList_load_mid rfl 80 _ rfl w.heap.size 0 rfl _ _ HR.out Tryz.underlying80 rfl (by rw [Array.length_toList, rowOf_size]; exact info30) ?_; simp only [Array.toArray_toList]) | (go_at_call 75; refine (short_w _ (by omega) _).mono ?_; rintro e w9 ⟨⟨t, rfl, ht⟩, hb9⟩; have hss9 := fun W => @run_string_add_sum Tryz.prog W (u) t (by omega)))
          go_ret2
          exact ⟨⟨_, rfl, by rw [ByteArray.size_append]; omega, by rw [ByteArray.size_append]; omega⟩, (hP.kept hb9).below⟩
  · go_simp
    refine (varint_small 1 (by decide) (by decide) _).mono ?_
    rintro e wc1 ⟨rfl, hbw⟩
    refine hK.out _ _ (hHeld.kept hbw) (fun hHeld => ?_)
    clear hK K
    refine wpAnyH_ready (rs := [3]) (by kernel_rfl) (by simp) (AllReadyH.cons (o := { dst := some 17, op := _, type := _, pos := _, after := _, guard := _ }) rfl (fun K hK => ?_) AllReadyH.nil)
    go_simp
    have q := alloc_cell wc1 (.int .u8 5) 5
    refine hK.out _ _ (hHeld.alloc _) (fun hHeld => ?_)
    clear hK K
    refine wpAnyH_ready (rs := [4]) (by kernel_rfl) (by simp) (AllReadyH.cons (o := { dst := some 18, op := _, type := _, pos := _, after := _, guard := _ }) rfl (fun K hK => ?_) AllReadyH.nil)
    have hq := conv_at _ _ _ q
    go_simp
    clear hq
    refine hK.out _ _ hHeld (fun hHeld => ?_)
    clear hK K
    refine wpAnyH_take (i := 9) (oi := { dst := some 23, op := _, type := _, pos := _, after := _, guard := _ }) rfl (by kernel_rfl) (by kernel_rfl) (by kernel_rfl) (fun _ _ _ h => h) (Or.inl ⟨by rfl, fun w _ => by have hss := @run_string_add_sum Tryz.prog w (strOfNums [5]) (strOfNums [1]) n1; go_simp; rfl⟩) hHeld ?_
    simp only [Act.put, List.setIfInBounds_toArray, List.set_cons_zero, List.set_cons_succ]
    refine wpAnyH_ready (rs := [10]) (by kernel_rfl) (by simp) (AllReadyH.cons (o := { dst := some 7, op := _, type := _, pos := _, after := _, guard := _ }) rfl (fun K hK => ?_) AllReadyH.nil)
    go_simp
    refine hK.out _ _ hHeld (fun hHeld => ?_)
    clear hK K
    refine wpAnyH_done (by kernel_rfl) ?_ _
    generalize hv : strOfNums [5] ++ strOfNums [1] = v
    have hvs : v.size = 2 := by rw [← hv]; simp only [ByteArray.size_append, strOfNums_size, List.length]
    clear hv
    obtain ⟨wE, hwE⟩ : ∃ x, x = (wc1.alloc (.cells #[.int .u8 5] 5)) := ⟨_, rfl⟩
    rw [← hwE] at hHeld ⊢
    clear hwE
    have hPE := hHeld
    clear hHeld
    obtain ⟨c0, c1, c2, c3, c4, c5, c6, c7⟩ := hPE.cells
    have hcv := conv_one
    have hss2 := fun W => @run_string_add_sum Tryz.prog W v (strOfNums [2]) (by rw [strOfNums_size, hvs]; decide)
    go_wp2
    have hPF := hPE.alloc (.cells #[.int .u8 2] 5)
    have hu0 : 2 ≤ (v ++ strOfNums [2]).size ∧ (v ++ strOfNums [2]).size ≤ 3 := by rw [ByteArray.size_append, strOfNums_size, hvs]; decide
    clear hPE c0 c1 c2 c3 c4 c5 c6 c7 hss2
    go_loopw [7, 8] (fun sv i wr => (∃ u : ByteArray, sv = .string u ∧ 2 ≤ u.size ∧ ((i = .int .i64 0 ∧ u.size ≤ 3) ∨ (i = .int .i64 1 ∧ u.size ≤ 103) ∨ (i = .int .i64 2 ∧ u.size ≤ 203))) ∧ PS w wr (.int .i64 5) (.int .u32 1) (.int .u64 0) (.int .u64 0) (.slice (some ⟨g, 0, none⟩) 2 2)) (fun _ i _ => 2 - (intOf i).toNat)
    case atStart => exact ⟨⟨_, rfl, hu0.1, Or.inl ⟨rfl, hu0.2⟩⟩, hPF⟩
    case round =>
      obtain ⟨⟨u, rfl, hu2, hi⟩, hP⟩ := hrel
      clear hPF hu0
      obtain ⟨c0, c1, c2, c3, c4, c5, c6, c7⟩ := hP.cells
      rcases hi with ⟨rfl, hu⟩ | ⟨rfl, hu⟩ | ⟨rfl, hu⟩
      · obtain ⟨r0, r1, r2, r3, r4, r5⟩ := cells0 (range_below hrA hP.below hg)
        go_wp2_with (first | (go_at_call 74; refine (bytesA_w _).mono ?_; rintro e w5 ⟨⟨b, rfl, hbs⟩, hb5⟩; have hss5 := fun W => @run_string_add_sum Tryz.prog W u b (by omega)))
        go_roundw
        case rel => exact ⟨⟨_, rfl, by rw [ByteArray.size_append]; omega, Or.inr (Or.inl ⟨rfl, by rw [ByteArray.size_append]; omega⟩)⟩, hP.kept hb5⟩
        case measure => simp [intOf]
      · obtain ⟨r0, r1, r2, r3, r4, r5⟩ := cells6 (range_below hrB hP.below hg)
        go_wp2_with (first | (go_at_call 74; refine (bytesB_w _).mono ?_; rintro e w5 ⟨⟨b, rfl, hbs⟩, hb5⟩; have hss5 := fun W => @run_string_add_sum Tryz.prog W u b (by omega)))
        go_roundw
        case rel => exact ⟨⟨_, rfl, by rw [ByteArray.size_append]; omega, Or.inr (Or.inr ⟨rfl, by rw [ByteArray.size_append]; omega⟩)⟩, hP.kept hb5⟩
        case measure => simp [intOf]
      · have HR : Hid (World.rangeAt _ w.heap.size 0 (rowOf 72 fun j => .int .u32 (RV j)).toList) := range72 hP.roots
        have hA : 2 ≤ (u).size ∧ (u).size ≤ 900 := ⟨hu2, by omega⟩
        go_wp2_with (first | (refine wpList_load_mid rfl 80 _ rfl w.heap.size 0 rfl _ _ HR.out Tryz.underlying80 rfl (by rw [Array.length_toList, rowOf_size]; exact info30) ?_; simp only [Array.toArray_toList]) | (go_at_call 75; refine (short_w _ (by omega) _).mono ?_; rintro e w9 ⟨⟨t, rfl, ht⟩, hb9⟩; have hss9 := fun W => @run_string_add_sum Tryz.prog W (u) t (by omega)))
        go_ret2
        exact ⟨⟨_, rfl, by rw [ByteArray.size_append]; omega, by rw [ByteArray.size_append]; omega⟩, (hP.kept hb9).below⟩
set_option maxRecDepth 100000 in
set_option maxHeartbeats 4000000 in
theorem packU  (w : World)  : Calls Tryz.prog 42 #[.agg (rowOf 72 fun j => .int .u32 (RV j)), .agg #[.int .i64 2, .int .u32 4, .int .u64 0, .int .u64 1099511627776, .int .u8 0, .int .u8 0, .int .u8 0, .slice none 0 0]] w fun e w' => (∃ b : ByteArray, e = .returned (.tuple #[.string b, .int .i64 0]) ∧ 1 ≤ b.size ∧ b.size ≤ 1000) ∧ Below w.heap.size w w' := by
  have y1 : IntKind.u8.wrap 2 = 2 := rfl
  have y2 : IntKind.u64.wrap 4 = 4 := rfl
  have n1 : (strOfNums [2]).size + (strOfNums [4]).size ≤ 9223372036854775807 := by simp only [strOfNums_size, List.length]; omega
  have hps := PS.start w (.int .i64 2) (.int .u32 4) (.int .u64 0) (.int .u64 1099511627776) (.slice none 0 0)
  go_enter Tryz.func42, Tryz.ntmps42
  go_wp2_with (first
    | (go_at_call 72; refine (isFrame2 _ _ (Or.inr ⟨rfl, rfl⟩) _).mono ?_; rintro e w1 ⟨rfl, hb1⟩; have hp1 := hps.kept hb1; clear hps))
  refine wp_region_held_drew (S := fun w' => PS w w' (.int .i64 2) (.int .u32 4) (.int .u64 0) (.int .u64 1099511627776) (.slice none 0 0)) (by kernel_rfl) hp1.drew (fun hHeld => ?_)
  generalize World.drew _ = wD at hHeld ⊢
  refine wpAnyH_take (i := 0) (oi := { dst := some 14, op := _, type := _, pos := _, after := _, guard := _ }) rfl (by kernel_rfl) (by kernel_rfl) (by kernel_rfl) (fun _ _ _ h => h) (Or.inl ⟨by rfl, fun w hS => by obtain ⟨c0, c1, c2, c3, c4, c5, c6, c7⟩ := hS.cells; go_simp; rfl⟩) hHeld ?_
  simp only [Act.put, List.setIfInBounds_toArray, List.set_cons_zero, List.set_cons_succ]
  refine wpAnyH_take (i := 1) (oi := { dst := some 15, op := _, type := _, pos := _, after := _, guard := _ }) rfl (by kernel_rfl) (by kernel_rfl) (by kernel_rfl) (fun _ _ _ h => h) (Or.inl ⟨by rfl, fun w hS => by obtain ⟨c0, c1, c2, c3, c4, c5, c6, c7⟩ := hS.cells; go_simp; rfl⟩) hHeld ?_
  simp only [Act.put, List.setIfInBounds_toArray, List.set_cons_zero, List.set_cons_succ]
  refine wpAnyH_take (i := 2) (oi := { dst := some 16, op := _, type := _, pos := _, after := _, guard := _ }) rfl (by kernel_rfl) (by kernel_rfl) (by kernel_rfl) (fun _ _ _ h => h) (Or.inl ⟨by rfl, fun w hS => by obtain ⟨c0, c1, c2, c3, c4, c5, c6, c7⟩ := hS.cells; go_simp; rfl⟩) hHeld ?_
  simp only [Act.put, List.setIfInBounds_toArray, List.set_cons_zero, List.set_cons_succ]
  refine wpAnyH_take (i := 5) (oi := { dst := some 19, op := _, type := _, pos := _, after := _, guard := _ }) rfl (by kernel_rfl) (by kernel_rfl) (by kernel_rfl) (fun _ _ _ h => h) (Or.inl ⟨by rfl, fun w hS => by obtain ⟨c0, c1, c2, c3, c4, c5, c6, c7⟩ := hS.cells; go_simp; rfl⟩) hHeld ?_
  simp only [Act.put, List.setIfInBounds_toArray, List.set_cons_zero, List.set_cons_succ]
  refine wpAnyH_take (i := 6) (oi := { dst := some 20, op := _, type := _, pos := _, after := _, guard := _ }) rfl (by kernel_rfl) (by kernel_rfl) (by kernel_rfl) (fun _ _ _ h => h) (Or.inl ⟨by rfl, fun w hS => by obtain ⟨c0, c1, c2, c3, c4, c5, c6, c7⟩ := hS.cells; go_simp; rfl⟩) hHeld ?_
  simp only [Act.put, List.setIfInBounds_toArray, List.set_cons_zero, List.set_cons_succ]
  refine wpAnyH_take (i := 7) (oi := { dst := some 21, op := _, type := _, pos := _, after := _, guard := _ }) rfl (by kernel_rfl) (by kernel_rfl) (by kernel_rfl) (fun _ _ _ h => h) (Or.inl ⟨by rfl, fun w hS => by obtain ⟨c0, c1, c2, c3, c4, c5, c6, c7⟩ := hS.cells; go_simp; rfl⟩) hHeld ?_
  simp only [Act.put, List.setIfInBounds_toArray, List.set_cons_zero, List.set_cons_succ]
  refine wpAnyH_ready (rs := [3, 8]) (by kernel_rfl) (by simp) (AllReadyH.cons (o := { dst := some 17, op := _, type := _, pos := _, after := _, guard := _ }) rfl (fun K hK => ?_) (AllReadyH.cons (o := { dst := some 22, op := _, type := _, pos := _, after := _, guard := _ }) rfl (fun K hK => ?_) AllReadyH.nil))
  · go_simp
    have q := alloc_cell wD (.int .u8 2) 5
    refine hK.out _ _ (hHeld.alloc _) (fun hHeld => ?_)
    clear hK K
    refine wpAnyH_ready (rs := [4, 8]) (by kernel_rfl) (by simp) (AllReadyH.cons (o := { dst := some 18, op := _, type := _, pos := _, after := _, guard := _ }) rfl (fun K hK => ?_) (AllReadyH.cons (o := { dst := some 22, op := _, type := _, pos := _, after := _, guard := _ }) rfl (fun K hK => ?_) AllReadyH.nil))
    · have hq := conv_at _ _ _ q
      go_simp
      clear hq
      refine hK.out _ _ hHeld (fun hHeld => ?_)
      clear hK K
      refine wpAnyH_ready (rs := [8]) (by kernel_rfl) (by simp) (AllReadyH.cons (o := { dst := some 22, op := _, type := _, pos := _, after := _, guard := _ }) rfl (fun K hK => ?_) AllReadyH.nil)
      go_simp
      refine (varint_small 4 (by decide) (by decide) _).mono ?_
      rintro e wc1 ⟨rfl, hbw⟩
      refine hK.out _ _ (hHeld.kept hbw) (fun hHeld => ?_)
      clear hK K
      refine wpAnyH_take (i := 9) (oi := { dst := some 23, op := _, type := _, pos := _, after := _, guard := _ }) rfl (by kernel_rfl) (by kernel_rfl) (by kernel_rfl) (fun _ _ _ h => h) (Or.inl ⟨by rfl, fun w _ => by have hss := @run_string_add_sum Tryz.prog w (strOfNums [2]) (strOfNums [4]) n1; go_simp; rfl⟩) hHeld ?_
      simp only [Act.put, List.setIfInBounds_toArray, List.set_cons_zero, List.set_cons_succ]
      refine wpAnyH_ready (rs := [10]) (by kernel_rfl) (by simp) (AllReadyH.cons (o := { dst := some 7, op := _, type := _, pos := _, after := _, guard := _ }) rfl (fun K hK => ?_) AllReadyH.nil)
      go_simp
      refine hK.out _ _ hHeld (fun hHeld => ?_)
      clear hK K
      refine wpAnyH_done (by kernel_rfl) ?_ _
      generalize hv : strOfNums [2] ++ strOfNums [4] = v
      have hvs : v.size = 2 := by rw [← hv]; simp only [ByteArray.size_append, strOfNums_size, List.length]
      clear hv
      obtain ⟨c0, c1, c2, c3, c4, c5, c6, c7⟩ := hHeld.cells
      go_wp2
      refine wp_region_held_drew (S := fun w' => PS w w' (.int .i64 2) (.int .u32 4) (.int .u64 0) (.int .u64 1099511627776) (.slice none 0 0)) (by kernel_rfl) hHeld.drew (fun hHeld => ?_)
      clear c0 c1 c2 c3 c4 c5 c6 c7
      refine wpAnyH_take (i := 0) (oi := { dst := some 27, op := _, type := _, pos := _, after := _, guard := _ }) rfl (by kernel_rfl) (by kernel_rfl) (by kernel_rfl) (fun _ _ _ h => h) (Or.inl ⟨by rfl, fun w hS => by obtain ⟨c0, c1, c2, c3, c4, c5, c6, c7⟩ := hS.cells; go_simp; rfl⟩) hHeld ?_
      simp only [Act.put, List.setIfInBounds_toArray, List.set_cons_zero, List.set_cons_succ]
      refine wpAnyH_take (i := 1) (oi := { dst := some 28, op := _, type := _, pos := _, after := _, guard := _ }) rfl (by kernel_rfl) (by kernel_rfl) (by kernel_rfl) (fun _ _ _ h => h) (Or.inl ⟨by rfl, fun w hS => by obtain ⟨c0, c1, c2, c3, c4, c5, c6, c7⟩ := hS.cells; go_simp; rfl⟩) hHeld ?_
      simp only [Act.put, List.setIfInBounds_toArray, List.set_cons_zero, List.set_cons_succ]
      refine wpAnyH_take (i := 2) (oi := { dst := some 29, op := _, type := _, pos := _, after := _, guard := _ }) rfl (by kernel_rfl) (by kernel_rfl) (by kernel_rfl) (fun _ _ _ h => h) (Or.inl ⟨by rfl, fun w hS => by obtain ⟨c0, c1, c2, c3, c4, c5, c6, c7⟩ := hS.cells; go_simp; rfl⟩) hHeld ?_
      simp only [Act.put, List.setIfInBounds_toArray, List.set_cons_zero, List.set_cons_succ]
      refine wpAnyH_take (i := 5) (oi := { dst := some 32, op := _, type := _, pos := _, after := _, guard := _ }) rfl (by kernel_rfl) (by kernel_rfl) (by kernel_rfl) (fun _ _ _ h => h) (Or.inl ⟨by rfl, fun w hS => by obtain ⟨c0, c1, c2, c3, c4, c5, c6, c7⟩ := hS.cells; go_simp; rfl⟩) hHeld ?_
      simp only [Act.put, List.setIfInBounds_toArray, List.set_cons_zero, List.set_cons_succ]
      refine wpAnyH_take (i := 6) (oi := { dst := some 33, op := _, type := _, pos := _, after := _, guard := _ }) rfl (by kernel_rfl) (by kernel_rfl) (by kernel_rfl) (fun _ _ _ h => h) (Or.inl ⟨by rfl, fun w hS => by obtain ⟨c0, c1, c2, c3, c4, c5, c6, c7⟩ := hS.cells; go_simp; rfl⟩) hHeld ?_
      simp only [Act.put, List.setIfInBounds_toArray, List.set_cons_zero, List.set_cons_succ]
      refine wpAnyH_ready (rs := [3]) (by kernel_rfl) (by simp) (AllReadyH.cons (o := { dst := some 30, op := _, type := _, pos := _, after := _, guard := _ }) rfl (fun K hK => ?_) AllReadyH.nil)
      go_simp
      refine (varint_w 0 (by decide) (by decide) _).mono ?_
      rintro e wp1 ⟨⟨p1, rfl, hp1⟩, hbp1⟩
      refine hK.out _ _ (hHeld.kept hbp1) (fun hHeld => ?_)
      clear hK K
      refine wpAnyH_take (i := 4) (oi := { dst := some 31, op := _, type := _, pos := _, after := _, guard := _ }) rfl (by kernel_rfl) (by kernel_rfl) (by kernel_rfl) (fun _ _ _ h => h) (Or.inl ⟨by rfl, fun w _ => by have hss := @run_string_add_sum Tryz.prog w v p1 (by omega); go_simp; rfl⟩) hHeld ?_
      simp only [Act.put, List.setIfInBounds_toArray, List.set_cons_zero, List.set_cons_succ]
      refine wpAnyH_ready (rs := [7]) (by kernel_rfl) (by simp) (AllReadyH.cons (o := { dst := some 34, op := _, type := _, pos := _, after := _, guard := _ }) rfl (fun K hK => ?_) AllReadyH.nil)
      go_simp
      refine (varint_w 1099511627776 (by decide) (by decide) _).mono ?_
      rintro e wp2 ⟨⟨p2, rfl, hp2⟩, hbp2⟩
      refine hK.out _ _ (hHeld.kept hbp2) (fun hHeld => ?_)
      clear hK K
      refine wpAnyH_take (i := 8) (oi := { dst := some 35, op := _, type := _, pos := _, after := _, guard := _ }) rfl (by kernel_rfl) (by kernel_rfl) (by kernel_rfl) (fun _ _ _ h => h) (Or.inl ⟨by rfl, fun w _ => by have hss := @run_string_add_sum Tryz.prog w (v ++ p1) p2 (by rw [ByteArray.size_append]; omega); go_simp; rfl⟩) hHeld ?_
      simp only [Act.put, List.setIfInBounds_toArray, List.set_cons_zero, List.set_cons_succ]
      refine wpAnyH_ready (rs := [9]) (by kernel_rfl) (by simp) (AllReadyH.cons (o := { dst := some 7, op := _, type := _, pos := _, after := _, guard := _ }) rfl (fun K hK => ?_) AllReadyH.nil)
      go_simp
      refine hK.out _ _ hHeld (fun hHeld => ?_)
      clear hK K
      refine wpAnyH_done (by kernel_rfl) ?_ _
      generalize hv2 : v ++ p1 ++ p2 = v2
      have hvs2 : 2 ≤ v2.size ∧ v2.size ≤ 30 := by rw [← hv2]; simp only [ByteArray.size_append]; omega
      clear hv2
      obtain ⟨c0, c1, c2, c3, c4, c5, c6, c7⟩ := hHeld.cells
      have HR : Hid (World.rangeAt _ w.heap.size 0 (rowOf 72 fun j => .int .u32 (RV j)).toList) := range72 hHeld.roots
      have hA : 2 ≤ (v2).size ∧ (v2).size ≤ 900 := ⟨hvs2.1, by omega⟩
      go_wp2_with (first | (refine wpList_load_mid rfl 80 _ rfl w.heap.size 0 rfl _ _ HR.out Tryz.underlying80 rfl (by rw [Array.length_toList, rowOf_size]; exact info30) ?_; simp only [Array.toArray_toList]) | (go_at_call 75; refine (short_w _ (by omega) _).mono ?_; rintro e w9 ⟨⟨t, rfl, ht⟩, hb9⟩; have hss9 := fun W => @run_string_add_sum Tryz.prog W (v2) t (by omega)))
      go_ret2
      exact ⟨⟨_, rfl, by rw [ByteArray.size_append]; omega, by rw [ByteArray.size_append]; omega⟩, (hHeld.kept hb9).below⟩
    · go_simp
      refine (varint_small 4 (by decide) (by decide) _).mono ?_
      rintro e wc1 ⟨rfl, hbw⟩
      have q := (hbw.cell (block_lt_of_cell q)).trans q
      refine hK.out _ _ (hHeld.kept hbw) (fun hHeld => ?_)
      clear hK K
      refine wpAnyH_ready (rs := [4]) (by kernel_rfl) (by simp) (AllReadyH.cons (o := { dst := some 18, op := _, type := _, pos := _, after := _, guard := _ }) rfl (fun K hK => ?_) AllReadyH.nil)
      have hq := conv_at _ _ _ q
      go_simp
      clear hq
      refine hK.out _ _ hHeld (fun hHeld => ?_)
      clear hK K
      refine wpAnyH_take (i := 9) (oi := { dst := some 23, op := _, type := _, pos := _, after := _, guard := _ }) rfl (by kernel_rfl) (by kernel_rfl) (by kernel_rfl) (fun _ _ _ h => h) (Or.inl ⟨by rfl, fun w _ => by have hss := @run_string_add_sum Tryz.prog w (strOfNums [2]) (strOfNums [4]) n1; go_simp; rfl⟩) hHeld ?_
      simp only [Act.put, List.setIfInBounds_toArray, List.set_cons_zero, List.set_cons_succ]
      refine wpAnyH_ready (rs := [10]) (by kernel_rfl) (by simp) (AllReadyH.cons (o := { dst := some 7, op := _, type := _, pos := _, after := _, guard := _ }) rfl (fun K hK => ?_) AllReadyH.nil)
      go_simp
      refine hK.out _ _ hHeld (fun hHeld => ?_)
      clear hK K
      refine wpAnyH_done (by kernel_rfl) ?_ _
      generalize hv : strOfNums [2] ++ strOfNums [4] = v
      have hvs : v.size = 2 := by rw [← hv]; simp only [ByteArray.size_append, strOfNums_size, List.length]
      clear hv
      obtain ⟨c0, c1, c2, c3, c4, c5, c6, c7⟩ := hHeld.cells
      go_wp2
      refine wp_region_held_drew (S := fun w' => PS w w' (.int .i64 2) (.int .u32 4) (.int .u64 0) (.int .u64 1099511627776) (.slice none 0 0)) (by kernel_rfl) hHeld.drew (fun hHeld => ?_)
      clear c0 c1 c2 c3 c4 c5 c6 c7
      refine wpAnyH_take (i := 0) (oi := { dst := some 27, op := _, type := _, pos := _, after := _, guard := _ }) rfl (by kernel_rfl) (by kernel_rfl) (by kernel_rfl) (fun _ _ _ h => h) (Or.inl ⟨by rfl, fun w hS => by obtain ⟨c0, c1, c2, c3, c4, c5, c6, c7⟩ := hS.cells; go_simp; rfl⟩) hHeld ?_
      simp only [Act.put, List.setIfInBounds_toArray, List.set_cons_zero, List.set_cons_succ]
      refine wpAnyH_take (i := 1) (oi := { dst := some 28, op := _, type := _, pos := _, after := _, guard := _ }) rfl (by kernel_rfl) (by kernel_rfl) (by kernel_rfl) (fun _ _ _ h => h) (Or.inl ⟨by rfl, fun w hS => by obtain ⟨c0, c1, c2, c3, c4, c5, c6, c7⟩ := hS.cells; go_simp; rfl⟩) hHeld ?_
      simp only [Act.put, List.setIfInBounds_toArray, List.set_cons_zero, List.set_cons_succ]
      refine wpAnyH_take (i := 2) (oi := { dst := some 29, op := _, type := _, pos := _, after := _, guard := _ }) rfl (by kernel_rfl) (by kernel_rfl) (by kernel_rfl) (fun _ _ _ h => h) (Or.inl ⟨by rfl, fun w hS => by obtain ⟨c0, c1, c2, c3, c4, c5, c6, c7⟩ := hS.cells; go_simp; rfl⟩) hHeld ?_
      simp only [Act.put, List.setIfInBounds_toArray, List.set_cons_zero, List.set_cons_succ]
      refine wpAnyH_take (i := 5) (oi := { dst := some 32, op := _, type := _, pos := _, after := _, guard := _ }) rfl (by kernel_rfl) (by kernel_rfl) (by kernel_rfl) (fun _ _ _ h => h) (Or.inl ⟨by rfl, fun w hS => by obtain ⟨c0, c1, c2, c3, c4, c5, c6, c7⟩ := hS.cells; go_simp; rfl⟩) hHeld ?_
      simp only [Act.put, List.setIfInBounds_toArray, List.set_cons_zero, List.set_cons_succ]
      refine wpAnyH_take (i := 6) (oi := { dst := some 33, op := _, type := _, pos := _, after := _, guard := _ }) rfl (by kernel_rfl) (by kernel_rfl) (by kernel_rfl) (fun _ _ _ h => h) (Or.inl ⟨by rfl, fun w hS => by obtain ⟨c0, c1, c2, c3, c4, c5, c6, c7⟩ := hS.cells; go_simp; rfl⟩) hHeld ?_
      simp only [Act.put, List.setIfInBounds_toArray, List.set_cons_zero, List.set_cons_succ]
      refine wpAnyH_ready (rs := [3]) (by kernel_rfl) (by simp) (AllReadyH.cons (o := { dst := some 30, op := _, type := _, pos := _, after := _, guard := _ }) rfl (fun K hK => ?_) AllReadyH.nil)
      go_simp
      refine (varint_w 0 (by decide) (by decide) _).mono ?_
      rintro e wp1 ⟨⟨p1, rfl, hp1⟩, hbp1⟩
      refine hK.out _ _ (hHeld.kept hbp1) (fun hHeld => ?_)
      clear hK K
      refine wpAnyH_take (i := 4) (oi := { dst := some 31, op := _, type := _, pos := _, after := _, guard := _ }) rfl (by kernel_rfl) (by kernel_rfl) (by kernel_rfl) (fun _ _ _ h => h) (Or.inl ⟨by rfl, fun w _ => by have hss := @run_string_add_sum Tryz.prog w v p1 (by omega); go_simp; rfl⟩) hHeld ?_
      simp only [Act.put, List.setIfInBounds_toArray, List.set_cons_zero, List.set_cons_succ]
      refine wpAnyH_ready (rs := [7]) (by kernel_rfl) (by simp) (AllReadyH.cons (o := { dst := some 34, op := _, type := _, pos := _, after := _, guard := _ }) rfl (fun K hK => ?_) AllReadyH.nil)
      go_simp
      refine (varint_w 1099511627776 (by decide) (by decide) _).mono ?_
      rintro e wp2 ⟨⟨p2, rfl, hp2⟩, hbp2⟩
      refine hK.out _ _ (hHeld.kept hbp2) (fun hHeld => ?_)
      clear hK K
      refine wpAnyH_take (i := 8) (oi := { dst := some 35, op := _, type := _, pos := _, after := _, guard := _ }) rfl (by kernel_rfl) (by kernel_rfl) (by kernel_rfl) (fun _ _ _ h => h) (Or.inl ⟨by rfl, fun w _ => by have hss := @run_string_add_sum Tryz.prog w (v ++ p1) p2 (by rw [ByteArray.size_append]; omega); go_simp; rfl⟩) hHeld ?_
      simp only [Act.put, List.setIfInBounds_toArray, List.set_cons_zero, List.set_cons_succ]
      refine wpAnyH_ready (rs := [9]) (by kernel_rfl) (by simp) (AllReadyH.cons (o := { dst := some 7, op := _, type := _, pos := _, after := _, guard := _ }) rfl (fun K hK => ?_) AllReadyH.nil)
      go_simp
      refine hK.out _ _ hHeld (fun hHeld => ?_)
      clear hK K
      refine wpAnyH_done (by kernel_rfl) ?_ _
      generalize hv2 : v ++ p1 ++ p2 = v2
      have hvs2 : 2 ≤ v2.size ∧ v2.size ≤ 30 := by rw [← hv2]; simp only [ByteArray.size_append]; omega
      clear hv2
      obtain ⟨c0, c1, c2, c3, c4, c5, c6, c7⟩ := hHeld.cells
      have HR : Hid (World.rangeAt _ w.heap.size 0 (rowOf 72 fun j => .int .u32 (RV j)).toList) := range72 hHeld.roots
      have hA : 2 ≤ (v2).size ∧ (v2).size ≤ 900 := ⟨hvs2.1, by omega⟩
      go_wp2_with (first | (refine wpList_load_mid rfl 80 _ rfl w.heap.size 0 rfl _ _ HR.out Tryz.underlying80 rfl (by rw [Array.length_toList, rowOf_size]; exact info30) ?_; simp only [Array.toArray_toList]) | (go_at_call 75; refine (short_w _ (by omega) _).mono ?_; rintro e w9 ⟨⟨t, rfl, ht⟩, hb9⟩; have hss9 := fun W => @run_string_add_sum Tryz.prog W (v2) t (by omega)))
      go_ret2
      exact ⟨⟨_, rfl, by rw [ByteArray.size_append]; omega, by rw [ByteArray.size_append]; omega⟩, (hHeld.kept hb9).below⟩
  · go_simp
    refine (varint_small 4 (by decide) (by decide) _).mono ?_
    rintro e wc1 ⟨rfl, hbw⟩
    refine hK.out _ _ (hHeld.kept hbw) (fun hHeld => ?_)
    clear hK K
    refine wpAnyH_ready (rs := [3]) (by kernel_rfl) (by simp) (AllReadyH.cons (o := { dst := some 17, op := _, type := _, pos := _, after := _, guard := _ }) rfl (fun K hK => ?_) AllReadyH.nil)
    go_simp
    have q := alloc_cell wc1 (.int .u8 2) 5
    refine hK.out _ _ (hHeld.alloc _) (fun hHeld => ?_)
    clear hK K
    refine wpAnyH_ready (rs := [4]) (by kernel_rfl) (by simp) (AllReadyH.cons (o := { dst := some 18, op := _, type := _, pos := _, after := _, guard := _ }) rfl (fun K hK => ?_) AllReadyH.nil)
    have hq := conv_at _ _ _ q
    go_simp
    clear hq
    refine hK.out _ _ hHeld (fun hHeld => ?_)
    clear hK K
    refine wpAnyH_take (i := 9) (oi := { dst := some 23, op := _, type := _, pos := _, after := _, guard := _ }) rfl (by kernel_rfl) (by kernel_rfl) (by kernel_rfl) (fun _ _ _ h => h) (Or.inl ⟨by rfl, fun w _ => by have hss := @run_string_add_sum Tryz.prog w (strOfNums [2]) (strOfNums [4]) n1; go_simp; rfl⟩) hHeld ?_
    simp only [Act.put, List.setIfInBounds_toArray, List.set_cons_zero, List.set_cons_succ]
    refine wpAnyH_ready (rs := [10]) (by kernel_rfl) (by simp) (AllReadyH.cons (o := { dst := some 7, op := _, type := _, pos := _, after := _, guard := _ }) rfl (fun K hK => ?_) AllReadyH.nil)
    go_simp
    refine hK.out _ _ hHeld (fun hHeld => ?_)
    clear hK K
    refine wpAnyH_done (by kernel_rfl) ?_ _
    generalize hv : strOfNums [2] ++ strOfNums [4] = v
    have hvs : v.size = 2 := by rw [← hv]; simp only [ByteArray.size_append, strOfNums_size, List.length]
    clear hv
    obtain ⟨c0, c1, c2, c3, c4, c5, c6, c7⟩ := hHeld.cells
    go_wp2
    refine wp_region_held_drew (S := fun w' => PS w w' (.int .i64 2) (.int .u32 4) (.int .u64 0) (.int .u64 1099511627776) (.slice none 0 0)) (by kernel_rfl) hHeld.drew (fun hHeld => ?_)
    clear c0 c1 c2 c3 c4 c5 c6 c7
    refine wpAnyH_take (i := 0) (oi := { dst := some 27, op := _, type := _, pos := _, after := _, guard := _ }) rfl (by kernel_rfl) (by kernel_rfl) (by kernel_rfl) (fun _ _ _ h => h) (Or.inl ⟨by rfl, fun w hS => by obtain ⟨c0, c1, c2, c3, c4, c5, c6, c7⟩ := hS.cells; go_simp; rfl⟩) hHeld ?_
    simp only [Act.put, List.setIfInBounds_toArray, List.set_cons_zero, List.set_cons_succ]
    refine wpAnyH_take (i := 1) (oi := { dst := some 28, op := _, type := _, pos := _, after := _, guard := _ }) rfl (by kernel_rfl) (by kernel_rfl) (by kernel_rfl) (fun _ _ _ h => h) (Or.inl ⟨by rfl, fun w hS => by obtain ⟨c0, c1, c2, c3, c4, c5, c6, c7⟩ := hS.cells; go_simp; rfl⟩) hHeld ?_
    simp only [Act.put, List.setIfInBounds_toArray, List.set_cons_zero, List.set_cons_succ]
    refine wpAnyH_take (i := 2) (oi := { dst := some 29, op := _, type := _, pos := _, after := _, guard := _ }) rfl (by kernel_rfl) (by kernel_rfl) (by kernel_rfl) (fun _ _ _ h => h) (Or.inl ⟨by rfl, fun w hS => by obtain ⟨c0, c1, c2, c3, c4, c5, c6, c7⟩ := hS.cells; go_simp; rfl⟩) hHeld ?_
    simp only [Act.put, List.setIfInBounds_toArray, List.set_cons_zero, List.set_cons_succ]
    refine wpAnyH_take (i := 5) (oi := { dst := some 32, op := _, type := _, pos := _, after := _, guard := _ }) rfl (by kernel_rfl) (by kernel_rfl) (by kernel_rfl) (fun _ _ _ h => h) (Or.inl ⟨by rfl, fun w hS => by obtain ⟨c0, c1, c2, c3, c4, c5, c6, c7⟩ := hS.cells; go_simp; rfl⟩) hHeld ?_
    simp only [Act.put, List.setIfInBounds_toArray, List.set_cons_zero, List.set_cons_succ]
    refine wpAnyH_take (i := 6) (oi := { dst := some 33, op := _, type := _, pos := _, after := _, guard := _ }) rfl (by kernel_rfl) (by kernel_rfl) (by kernel_rfl) (fun _ _ _ h => h) (Or.inl ⟨by rfl, fun w hS => by obtain ⟨c0, c1, c2, c3, c4, c5, c6, c7⟩ := hS.cells; go_simp; rfl⟩) hHeld ?_
    simp only [Act.put, List.setIfInBounds_toArray, List.set_cons_zero, List.set_cons_succ]
    refine wpAnyH_ready (rs := [3]) (by kernel_rfl) (by simp) (AllReadyH.cons (o := { dst := some 30, op := _, type := _, pos := _, after := _, guard := _ }) rfl (fun K hK => ?_) AllReadyH.nil)
    go_simp
    refine (varint_w 0 (by decide) (by decide) _).mono ?_
    rintro e wp1 ⟨⟨p1, rfl, hp1⟩, hbp1⟩
    refine hK.out _ _ (hHeld.kept hbp1) (fun hHeld => ?_)
    clear hK K
    refine wpAnyH_take (i := 4) (oi := { dst := some 31, op := _, type := _, pos := _, after := _, guard := _ }) rfl (by kernel_rfl) (by kernel_rfl) (by kernel_rfl) (fun _ _ _ h => h) (Or.inl ⟨by rfl, fun w _ => by have hss := @run_string_add_sum Tryz.prog w v p1 (by omega); go_simp; rfl⟩) hHeld ?_
    simp only [Act.put, List.setIfInBounds_toArray, List.set_cons_zero, List.set_cons_succ]
    refine wpAnyH_ready (rs := [7]) (by kernel_rfl) (by simp) (AllReadyH.cons (o := { dst := some 34, op := _, type := _, pos := _, after := _, guard := _ }) rfl (fun K hK => ?_) AllReadyH.nil)
    go_simp
    refine (varint_w 1099511627776 (by decide) (by decide) _).mono ?_
    rintro e wp2 ⟨⟨p2, rfl, hp2⟩, hbp2⟩
    refine hK.out _ _ (hHeld.kept hbp2) (fun hHeld => ?_)
    clear hK K
    refine wpAnyH_take (i := 8) (oi := { dst := some 35, op := _, type := _, pos := _, after := _, guard := _ }) rfl (by kernel_rfl) (by kernel_rfl) (by kernel_rfl) (fun _ _ _ h => h) (Or.inl ⟨by rfl, fun w _ => by have hss := @run_string_add_sum Tryz.prog w (v ++ p1) p2 (by rw [ByteArray.size_append]; omega); go_simp; rfl⟩) hHeld ?_
    simp only [Act.put, List.setIfInBounds_toArray, List.set_cons_zero, List.set_cons_succ]
    refine wpAnyH_ready (rs := [9]) (by kernel_rfl) (by simp) (AllReadyH.cons (o := { dst := some 7, op := _, type := _, pos := _, after := _, guard := _ }) rfl (fun K hK => ?_) AllReadyH.nil)
    go_simp
    refine hK.out _ _ hHeld (fun hHeld => ?_)
    clear hK K
    refine wpAnyH_done (by kernel_rfl) ?_ _
    generalize hv2 : v ++ p1 ++ p2 = v2
    have hvs2 : 2 ≤ v2.size ∧ v2.size ≤ 30 := by rw [← hv2]; simp only [ByteArray.size_append]; omega
    clear hv2
    obtain ⟨c0, c1, c2, c3, c4, c5, c6, c7⟩ := hHeld.cells
    have HR : Hid (World.rangeAt _ w.heap.size 0 (rowOf 72 fun j => .int .u32 (RV j)).toList) := range72 hHeld.roots
    have hA : 2 ≤ (v2).size ∧ (v2).size ≤ 900 := ⟨hvs2.1, by omega⟩
    go_wp2_with (first | (refine wpList_load_mid rfl 80 _ rfl w.heap.size 0 rfl _ _ HR.out Tryz.underlying80 rfl (by rw [Array.length_toList, rowOf_size]; exact info30) ?_; simp only [Array.toArray_toList]) | (go_at_call 75; refine (short_w _ (by omega) _).mono ?_; rintro e w9 ⟨⟨t, rfl, ht⟩, hb9⟩; have hss9 := fun W => @run_string_add_sum Tryz.prog W (v2) t (by omega)))
    go_ret2
    exact ⟨⟨_, rfl, by rw [ByteArray.size_append]; omega, by rw [ByteArray.size_append]; omega⟩, (hHeld.kept hb9).below⟩
set_option maxRecDepth 100000 in
set_option maxHeartbeats 4000000 in
theorem packT  (w : World)  : Calls Tryz.prog 42 #[.agg (rowOf 72 fun j => .int .u32 (RV j)), .agg #[.int .i64 1, .int .u32 1, .int .u64 0, .int .u64 1099511627776, .int .u8 0, .int .u8 0, .int .u8 0, .slice none 0 0]] w fun e w' => (∃ b : ByteArray, e = .returned (.tuple #[.string b, .int .i64 0]) ∧ 1 ≤ b.size ∧ b.size ≤ 1000) ∧ Below w.heap.size w w' := by
  have y1 : IntKind.u8.wrap 1 = 1 := rfl
  have y2 : IntKind.u64.wrap 1 = 1 := rfl
  have n1 : (strOfNums [1]).size + (strOfNums [1]).size ≤ 9223372036854775807 := by simp only [strOfNums_size, List.length]; omega
  have hps := PS.start w (.int .i64 1) (.int .u32 1) (.int .u64 0) (.int .u64 1099511627776) (.slice none 0 0)
  go_enter Tryz.func42, Tryz.ntmps42
  go_wp2_with (first
    | (go_at_call 72; refine (isFrame2 _ _ (Or.inl ⟨rfl, rfl⟩) _).mono ?_; rintro e w1 ⟨rfl, hb1⟩; have hp1 := hps.kept hb1; clear hps))
  refine wp_region_held_drew (S := fun w' => PS w w' (.int .i64 1) (.int .u32 1) (.int .u64 0) (.int .u64 1099511627776) (.slice none 0 0)) (by kernel_rfl) hp1.drew (fun hHeld => ?_)
  generalize World.drew _ = wD at hHeld ⊢
  refine wpAnyH_take (i := 0) (oi := { dst := some 14, op := _, type := _, pos := _, after := _, guard := _ }) rfl (by kernel_rfl) (by kernel_rfl) (by kernel_rfl) (fun _ _ _ h => h) (Or.inl ⟨by rfl, fun w hS => by obtain ⟨c0, c1, c2, c3, c4, c5, c6, c7⟩ := hS.cells; go_simp; rfl⟩) hHeld ?_
  simp only [Act.put, List.setIfInBounds_toArray, List.set_cons_zero, List.set_cons_succ]
  refine wpAnyH_take (i := 1) (oi := { dst := some 15, op := _, type := _, pos := _, after := _, guard := _ }) rfl (by kernel_rfl) (by kernel_rfl) (by kernel_rfl) (fun _ _ _ h => h) (Or.inl ⟨by rfl, fun w hS => by obtain ⟨c0, c1, c2, c3, c4, c5, c6, c7⟩ := hS.cells; go_simp; rfl⟩) hHeld ?_
  simp only [Act.put, List.setIfInBounds_toArray, List.set_cons_zero, List.set_cons_succ]
  refine wpAnyH_take (i := 2) (oi := { dst := some 16, op := _, type := _, pos := _, after := _, guard := _ }) rfl (by kernel_rfl) (by kernel_rfl) (by kernel_rfl) (fun _ _ _ h => h) (Or.inl ⟨by rfl, fun w hS => by obtain ⟨c0, c1, c2, c3, c4, c5, c6, c7⟩ := hS.cells; go_simp; rfl⟩) hHeld ?_
  simp only [Act.put, List.setIfInBounds_toArray, List.set_cons_zero, List.set_cons_succ]
  refine wpAnyH_take (i := 5) (oi := { dst := some 19, op := _, type := _, pos := _, after := _, guard := _ }) rfl (by kernel_rfl) (by kernel_rfl) (by kernel_rfl) (fun _ _ _ h => h) (Or.inl ⟨by rfl, fun w hS => by obtain ⟨c0, c1, c2, c3, c4, c5, c6, c7⟩ := hS.cells; go_simp; rfl⟩) hHeld ?_
  simp only [Act.put, List.setIfInBounds_toArray, List.set_cons_zero, List.set_cons_succ]
  refine wpAnyH_take (i := 6) (oi := { dst := some 20, op := _, type := _, pos := _, after := _, guard := _ }) rfl (by kernel_rfl) (by kernel_rfl) (by kernel_rfl) (fun _ _ _ h => h) (Or.inl ⟨by rfl, fun w hS => by obtain ⟨c0, c1, c2, c3, c4, c5, c6, c7⟩ := hS.cells; go_simp; rfl⟩) hHeld ?_
  simp only [Act.put, List.setIfInBounds_toArray, List.set_cons_zero, List.set_cons_succ]
  refine wpAnyH_take (i := 7) (oi := { dst := some 21, op := _, type := _, pos := _, after := _, guard := _ }) rfl (by kernel_rfl) (by kernel_rfl) (by kernel_rfl) (fun _ _ _ h => h) (Or.inl ⟨by rfl, fun w hS => by obtain ⟨c0, c1, c2, c3, c4, c5, c6, c7⟩ := hS.cells; go_simp; rfl⟩) hHeld ?_
  simp only [Act.put, List.setIfInBounds_toArray, List.set_cons_zero, List.set_cons_succ]
  refine wpAnyH_ready (rs := [3, 8]) (by kernel_rfl) (by simp) (AllReadyH.cons (o := { dst := some 17, op := _, type := _, pos := _, after := _, guard := _ }) rfl (fun K hK => ?_) (AllReadyH.cons (o := { dst := some 22, op := _, type := _, pos := _, after := _, guard := _ }) rfl (fun K hK => ?_) AllReadyH.nil))
  · go_simp
    have q := alloc_cell wD (.int .u8 1) 5
    refine hK.out _ _ (hHeld.alloc _) (fun hHeld => ?_)
    clear hK K
    refine wpAnyH_ready (rs := [4, 8]) (by kernel_rfl) (by simp) (AllReadyH.cons (o := { dst := some 18, op := _, type := _, pos := _, after := _, guard := _ }) rfl (fun K hK => ?_) (AllReadyH.cons (o := { dst := some 22, op := _, type := _, pos := _, after := _, guard := _ }) rfl (fun K hK => ?_) AllReadyH.nil))
    · have hq := conv_at _ _ _ q
      go_simp
      clear hq
      refine hK.out _ _ hHeld (fun hHeld => ?_)
      clear hK K
      refine wpAnyH_ready (rs := [8]) (by kernel_rfl) (by simp) (AllReadyH.cons (o := { dst := some 22, op := _, type := _, pos := _, after := _, guard := _ }) rfl (fun K hK => ?_) AllReadyH.nil)
      go_simp
      refine (varint_small 1 (by decide) (by decide) _).mono ?_
      rintro e wc1 ⟨rfl, hbw⟩
      refine hK.out _ _ (hHeld.kept hbw) (fun hHeld => ?_)
      clear hK K
      refine wpAnyH_take (i := 9) (oi := { dst := some 23, op := _, type := _, pos := _, after := _, guard := _ }) rfl (by kernel_rfl) (by kernel_rfl) (by kernel_rfl) (fun _ _ _ h => h) (Or.inl ⟨by rfl, fun w _ => by have hss := @run_string_add_sum Tryz.prog w (strOfNums [1]) (strOfNums [1]) n1; go_simp; rfl⟩) hHeld ?_
      simp only [Act.put, List.setIfInBounds_toArray, List.set_cons_zero, List.set_cons_succ]
      refine wpAnyH_ready (rs := [10]) (by kernel_rfl) (by simp) (AllReadyH.cons (o := { dst := some 7, op := _, type := _, pos := _, after := _, guard := _ }) rfl (fun K hK => ?_) AllReadyH.nil)
      go_simp
      refine hK.out _ _ hHeld (fun hHeld => ?_)
      clear hK K
      refine wpAnyH_done (by kernel_rfl) ?_ _
      generalize hv : strOfNums [1] ++ strOfNums [1] = v
      have hvs : v.size = 2 := by rw [← hv]; simp only [ByteArray.size_append, strOfNums_size, List.length]
      clear hv
      obtain ⟨c0, c1, c2, c3, c4, c5, c6, c7⟩ := hHeld.cells
      go_wp2
      refine wp_region_held_drew (S := fun w' => PS w w' (.int .i64 1) (.int .u32 1) (.int .u64 0) (.int .u64 1099511627776) (.slice none 0 0)) (by kernel_rfl) hHeld.drew (fun hHeld => ?_)
      clear c0 c1 c2 c3 c4 c5 c6 c7
      refine wpAnyH_take (i := 0) (oi := { dst := some 27, op := _, type := _, pos := _, after := _, guard := _ }) rfl (by kernel_rfl) (by kernel_rfl) (by kernel_rfl) (fun _ _ _ h => h) (Or.inl ⟨by rfl, fun w hS => by obtain ⟨c0, c1, c2, c3, c4, c5, c6, c7⟩ := hS.cells; go_simp; rfl⟩) hHeld ?_
      simp only [Act.put, List.setIfInBounds_toArray, List.set_cons_zero, List.set_cons_succ]
      refine wpAnyH_take (i := 1) (oi := { dst := some 28, op := _, type := _, pos := _, after := _, guard := _ }) rfl (by kernel_rfl) (by kernel_rfl) (by kernel_rfl) (fun _ _ _ h => h) (Or.inl ⟨by rfl, fun w hS => by obtain ⟨c0, c1, c2, c3, c4, c5, c6, c7⟩ := hS.cells; go_simp; rfl⟩) hHeld ?_
      simp only [Act.put, List.setIfInBounds_toArray, List.set_cons_zero, List.set_cons_succ]
      refine wpAnyH_take (i := 2) (oi := { dst := some 29, op := _, type := _, pos := _, after := _, guard := _ }) rfl (by kernel_rfl) (by kernel_rfl) (by kernel_rfl) (fun _ _ _ h => h) (Or.inl ⟨by rfl, fun w hS => by obtain ⟨c0, c1, c2, c3, c4, c5, c6, c7⟩ := hS.cells; go_simp; rfl⟩) hHeld ?_
      simp only [Act.put, List.setIfInBounds_toArray, List.set_cons_zero, List.set_cons_succ]
      refine wpAnyH_take (i := 5) (oi := { dst := some 32, op := _, type := _, pos := _, after := _, guard := _ }) rfl (by kernel_rfl) (by kernel_rfl) (by kernel_rfl) (fun _ _ _ h => h) (Or.inl ⟨by rfl, fun w hS => by obtain ⟨c0, c1, c2, c3, c4, c5, c6, c7⟩ := hS.cells; go_simp; rfl⟩) hHeld ?_
      simp only [Act.put, List.setIfInBounds_toArray, List.set_cons_zero, List.set_cons_succ]
      refine wpAnyH_take (i := 6) (oi := { dst := some 33, op := _, type := _, pos := _, after := _, guard := _ }) rfl (by kernel_rfl) (by kernel_rfl) (by kernel_rfl) (fun _ _ _ h => h) (Or.inl ⟨by rfl, fun w hS => by obtain ⟨c0, c1, c2, c3, c4, c5, c6, c7⟩ := hS.cells; go_simp; rfl⟩) hHeld ?_
      simp only [Act.put, List.setIfInBounds_toArray, List.set_cons_zero, List.set_cons_succ]
      refine wpAnyH_ready (rs := [3]) (by kernel_rfl) (by simp) (AllReadyH.cons (o := { dst := some 30, op := _, type := _, pos := _, after := _, guard := _ }) rfl (fun K hK => ?_) AllReadyH.nil)
      go_simp
      refine (varint_w 0 (by decide) (by decide) _).mono ?_
      rintro e wp1 ⟨⟨p1, rfl, hp1⟩, hbp1⟩
      refine hK.out _ _ (hHeld.kept hbp1) (fun hHeld => ?_)
      clear hK K
      refine wpAnyH_take (i := 4) (oi := { dst := some 31, op := _, type := _, pos := _, after := _, guard := _ }) rfl (by kernel_rfl) (by kernel_rfl) (by kernel_rfl) (fun _ _ _ h => h) (Or.inl ⟨by rfl, fun w _ => by have hss := @run_string_add_sum Tryz.prog w v p1 (by omega); go_simp; rfl⟩) hHeld ?_
      simp only [Act.put, List.setIfInBounds_toArray, List.set_cons_zero, List.set_cons_succ]
      refine wpAnyH_ready (rs := [7]) (by kernel_rfl) (by simp) (AllReadyH.cons (o := { dst := some 34, op := _, type := _, pos := _, after := _, guard := _ }) rfl (fun K hK => ?_) AllReadyH.nil)
      go_simp
      refine (varint_w 1099511627776 (by decide) (by decide) _).mono ?_
      rintro e wp2 ⟨⟨p2, rfl, hp2⟩, hbp2⟩
      refine hK.out _ _ (hHeld.kept hbp2) (fun hHeld => ?_)
      clear hK K
      refine wpAnyH_take (i := 8) (oi := { dst := some 35, op := _, type := _, pos := _, after := _, guard := _ }) rfl (by kernel_rfl) (by kernel_rfl) (by kernel_rfl) (fun _ _ _ h => h) (Or.inl ⟨by rfl, fun w _ => by have hss := @run_string_add_sum Tryz.prog w (v ++ p1) p2 (by rw [ByteArray.size_append]; omega); go_simp; rfl⟩) hHeld ?_
      simp only [Act.put, List.setIfInBounds_toArray, List.set_cons_zero, List.set_cons_succ]
      refine wpAnyH_ready (rs := [9]) (by kernel_rfl) (by simp) (AllReadyH.cons (o := { dst := some 7, op := _, type := _, pos := _, after := _, guard := _ }) rfl (fun K hK => ?_) AllReadyH.nil)
      go_simp
      refine hK.out _ _ hHeld (fun hHeld => ?_)
      clear hK K
      refine wpAnyH_done (by kernel_rfl) ?_ _
      generalize hv2 : v ++ p1 ++ p2 = v2
      have hvs2 : 2 ≤ v2.size ∧ v2.size ≤ 30 := by rw [← hv2]; simp only [ByteArray.size_append]; omega
      clear hv2
      obtain ⟨c0, c1, c2, c3, c4, c5, c6, c7⟩ := hHeld.cells
      have hdg := conv3 _ _ c4 c5 c6
      have h3s := strOfNums_size [0, 0, 0]
      have hss3 := fun W => @run_string_add_sum Tryz.prog W v2 (strOfNums [0, 0, 0]) (by rw [h3s, List.length_cons, List.length_cons, List.length_cons, List.length_nil]; omega)
      have HR : Hid (World.rangeAt _ w.heap.size 0 (rowOf 72 fun j => .int .u32 (RV j)).toList) := range72 hHeld.roots
      have hA : 2 ≤ (v2 ++ strOfNums [0, 0, 0]).size ∧ (v2 ++ strOfNums [0, 0, 0]).size ≤ 900 := by rw [ByteArray.size_append, h3s, List.length_cons, List.length_cons, List.length_cons, List.length_nil]; omega
      go_wp2_with (first | (refine wpList_load_mid rfl 80 _ rfl w.heap.size 0 rfl _ _ HR.out Tryz.underlying80 rfl (by rw [Array.length_toList, rowOf_size]; exact info30) ?_; simp only [Array.toArray_toList]) | (go_at_call 75; refine (short_w _ (by omega) _).mono ?_; rintro e w9 ⟨⟨t, rfl, ht⟩, hb9⟩; have hss9 := fun W => @run_string_add_sum Tryz.prog W (v2 ++ strOfNums [0, 0, 0]) t (by omega)))
      go_ret2
      exact ⟨⟨_, rfl, by rw [ByteArray.size_append]; omega, by rw [ByteArray.size_append]; omega⟩, (hHeld.kept hb9).below⟩
    · go_simp
      refine (varint_small 1 (by decide) (by decide) _).mono ?_
      rintro e wc1 ⟨rfl, hbw⟩
      have q := (hbw.cell (block_lt_of_cell q)).trans q
      refine hK.out _ _ (hHeld.kept hbw) (fun hHeld => ?_)
      clear hK K
      refine wpAnyH_ready (rs := [4]) (by kernel_rfl) (by simp) (AllReadyH.cons (o := { dst := some 18, op := _, type := _, pos := _, after := _, guard := _ }) rfl (fun K hK => ?_) AllReadyH.nil)
      have hq := conv_at _ _ _ q
      go_simp
      clear hq
      refine hK.out _ _ hHeld (fun hHeld => ?_)
      clear hK K
      refine wpAnyH_take (i := 9) (oi := { dst := some 23, op := _, type := _, pos := _, after := _, guard := _ }) rfl (by kernel_rfl) (by kernel_rfl) (by kernel_rfl) (fun _ _ _ h => h) (Or.inl ⟨by rfl, fun w _ => by have hss := @run_string_add_sum Tryz.prog w (strOfNums [1]) (strOfNums [1]) n1; go_simp; rfl⟩) hHeld ?_
      simp only [Act.put, List.setIfInBounds_toArray, List.set_cons_zero, List.set_cons_succ]
      refine wpAnyH_ready (rs := [10]) (by kernel_rfl) (by simp) (AllReadyH.cons (o := { dst := some 7, op := _, type := _, pos := _, after := _, guard := _ }) rfl (fun K hK => ?_) AllReadyH.nil)
      go_simp
      refine hK.out _ _ hHeld (fun hHeld => ?_)
      clear hK K
      refine wpAnyH_done (by kernel_rfl) ?_ _
      generalize hv : strOfNums [1] ++ strOfNums [1] = v
      have hvs : v.size = 2 := by rw [← hv]; simp only [ByteArray.size_append, strOfNums_size, List.length]
      clear hv
      obtain ⟨c0, c1, c2, c3, c4, c5, c6, c7⟩ := hHeld.cells
      go_wp2
      refine wp_region_held_drew (S := fun w' => PS w w' (.int .i64 1) (.int .u32 1) (.int .u64 0) (.int .u64 1099511627776) (.slice none 0 0)) (by kernel_rfl) hHeld.drew (fun hHeld => ?_)
      clear c0 c1 c2 c3 c4 c5 c6 c7
      refine wpAnyH_take (i := 0) (oi := { dst := some 27, op := _, type := _, pos := _, after := _, guard := _ }) rfl (by kernel_rfl) (by kernel_rfl) (by kernel_rfl) (fun _ _ _ h => h) (Or.inl ⟨by rfl, fun w hS => by obtain ⟨c0, c1, c2, c3, c4, c5, c6, c7⟩ := hS.cells; go_simp; rfl⟩) hHeld ?_
      simp only [Act.put, List.setIfInBounds_toArray, List.set_cons_zero, List.set_cons_succ]
      refine wpAnyH_take (i := 1) (oi := { dst := some 28, op := _, type := _, pos := _, after := _, guard := _ }) rfl (by kernel_rfl) (by kernel_rfl) (by kernel_rfl) (fun _ _ _ h => h) (Or.inl ⟨by rfl, fun w hS => by obtain ⟨c0, c1, c2, c3, c4, c5, c6, c7⟩ := hS.cells; go_simp; rfl⟩) hHeld ?_
      simp only [Act.put, List.setIfInBounds_toArray, List.set_cons_zero, List.set_cons_succ]
      refine wpAnyH_take (i := 2) (oi := { dst := some 29, op := _, type := _, pos := _, after := _, guard := _ }) rfl (by kernel_rfl) (by kernel_rfl) (by kernel_rfl) (fun _ _ _ h => h) (Or.inl ⟨by rfl, fun w hS => by obtain ⟨c0, c1, c2, c3, c4, c5, c6, c7⟩ := hS.cells; go_simp; rfl⟩) hHeld ?_
      simp only [Act.put, List.setIfInBounds_toArray, List.set_cons_zero, List.set_cons_succ]
      refine wpAnyH_take (i := 5) (oi := { dst := some 32, op := _, type := _, pos := _, after := _, guard := _ }) rfl (by kernel_rfl) (by kernel_rfl) (by kernel_rfl) (fun _ _ _ h => h) (Or.inl ⟨by rfl, fun w hS => by obtain ⟨c0, c1, c2, c3, c4, c5, c6, c7⟩ := hS.cells; go_simp; rfl⟩) hHeld ?_
      simp only [Act.put, List.setIfInBounds_toArray, List.set_cons_zero, List.set_cons_succ]
      refine wpAnyH_take (i := 6) (oi := { dst := some 33, op := _, type := _, pos := _, after := _, guard := _ }) rfl (by kernel_rfl) (by kernel_rfl) (by kernel_rfl) (fun _ _ _ h => h) (Or.inl ⟨by rfl, fun w hS => by obtain ⟨c0, c1, c2, c3, c4, c5, c6, c7⟩ := hS.cells; go_simp; rfl⟩) hHeld ?_
      simp only [Act.put, List.setIfInBounds_toArray, List.set_cons_zero, List.set_cons_succ]
      refine wpAnyH_ready (rs := [3]) (by kernel_rfl) (by simp) (AllReadyH.cons (o := { dst := some 30, op := _, type := _, pos := _, after := _, guard := _ }) rfl (fun K hK => ?_) AllReadyH.nil)
      go_simp
      refine (varint_w 0 (by decide) (by decide) _).mono ?_
      rintro e wp1 ⟨⟨p1, rfl, hp1⟩, hbp1⟩
      refine hK.out _ _ (hHeld.kept hbp1) (fun hHeld => ?_)
      clear hK K
      refine wpAnyH_take (i := 4) (oi := { dst := some 31, op := _, type := _, pos := _, after := _, guard := _ }) rfl (by kernel_rfl) (by kernel_rfl) (by kernel_rfl) (fun _ _ _ h => h) (Or.inl ⟨by rfl, fun w _ => by have hss := @run_string_add_sum Tryz.prog w v p1 (by omega); go_simp; rfl⟩) hHeld ?_
      simp only [Act.put, List.setIfInBounds_toArray, List.set_cons_zero, List.set_cons_succ]
      refine wpAnyH_ready (rs := [7]) (by kernel_rfl) (by simp) (AllReadyH.cons (o := { dst := some 34, op := _, type := _, pos := _, after := _, guard := _ }) rfl (fun K hK => ?_) AllReadyH.nil)
      go_simp
      refine (varint_w 1099511627776 (by decide) (by decide) _).mono ?_
      rintro e wp2 ⟨⟨p2, rfl, hp2⟩, hbp2⟩
      refine hK.out _ _ (hHeld.kept hbp2) (fun hHeld => ?_)
      clear hK K
      refine wpAnyH_take (i := 8) (oi := { dst := some 35, op := _, type := _, pos := _, after := _, guard := _ }) rfl (by kernel_rfl) (by kernel_rfl) (by kernel_rfl) (fun _ _ _ h => h) (Or.inl ⟨by rfl, fun w _ => by have hss := @run_string_add_sum Tryz.prog w (v ++ p1) p2 (by rw [ByteArray.size_append]; omega); go_simp; rfl⟩) hHeld ?_
      simp only [Act.put, List.setIfInBounds_toArray, List.set_cons_zero, List.set_cons_succ]
      refine wpAnyH_ready (rs := [9]) (by kernel_rfl) (by simp) (AllReadyH.cons (o := { dst := some 7, op := _, type := _, pos := _, after := _, guard := _ }) rfl (fun K hK => ?_) AllReadyH.nil)
      go_simp
      refine hK.out _ _ hHeld (fun hHeld => ?_)
      clear hK K
      refine wpAnyH_done (by kernel_rfl) ?_ _
      generalize hv2 : v ++ p1 ++ p2 = v2
      have hvs2 : 2 ≤ v2.size ∧ v2.size ≤ 30 := by rw [← hv2]; simp only [ByteArray.size_append]; omega
      clear hv2
      obtain ⟨c0, c1, c2, c3, c4, c5, c6, c7⟩ := hHeld.cells
      have hdg := conv3 _ _ c4 c5 c6
      have h3s := strOfNums_size [0, 0, 0]
      have hss3 := fun W => @run_string_add_sum Tryz.prog W v2 (strOfNums [0, 0, 0]) (by rw [h3s, List.length_cons, List.length_cons, List.length_cons, List.length_nil]; omega)
      have HR : Hid (World.rangeAt _ w.heap.size 0 (rowOf 72 fun j => .int .u32 (RV j)).toList) := range72 hHeld.roots
      have hA : 2 ≤ (v2 ++ strOfNums [0, 0, 0]).size ∧ (v2 ++ strOfNums [0, 0, 0]).size ≤ 900 := by rw [ByteArray.size_append, h3s, List.length_cons, List.length_cons, List.length_cons, List.length_nil]; omega
      go_wp2_with (first | (refine wpList_load_mid rfl 80 _ rfl w.heap.size 0 rfl _ _ HR.out Tryz.underlying80 rfl (by rw [Array.length_toList, rowOf_size]; exact info30) ?_; simp only [Array.toArray_toList]) | (go_at_call 75; refine (short_w _ (by omega) _).mono ?_; rintro e w9 ⟨⟨t, rfl, ht⟩, hb9⟩; have hss9 := fun W => @run_string_add_sum Tryz.prog W (v2 ++ strOfNums [0, 0, 0]) t (by omega)))
      go_ret2
      exact ⟨⟨_, rfl, by rw [ByteArray.size_append]; omega, by rw [ByteArray.size_append]; omega⟩, (hHeld.kept hb9).below⟩
  · go_simp
    refine (varint_small 1 (by decide) (by decide) _).mono ?_
    rintro e wc1 ⟨rfl, hbw⟩
    refine hK.out _ _ (hHeld.kept hbw) (fun hHeld => ?_)
    clear hK K
    refine wpAnyH_ready (rs := [3]) (by kernel_rfl) (by simp) (AllReadyH.cons (o := { dst := some 17, op := _, type := _, pos := _, after := _, guard := _ }) rfl (fun K hK => ?_) AllReadyH.nil)
    go_simp
    have q := alloc_cell wc1 (.int .u8 1) 5
    refine hK.out _ _ (hHeld.alloc _) (fun hHeld => ?_)
    clear hK K
    refine wpAnyH_ready (rs := [4]) (by kernel_rfl) (by simp) (AllReadyH.cons (o := { dst := some 18, op := _, type := _, pos := _, after := _, guard := _ }) rfl (fun K hK => ?_) AllReadyH.nil)
    have hq := conv_at _ _ _ q
    go_simp
    clear hq
    refine hK.out _ _ hHeld (fun hHeld => ?_)
    clear hK K
    refine wpAnyH_take (i := 9) (oi := { dst := some 23, op := _, type := _, pos := _, after := _, guard := _ }) rfl (by kernel_rfl) (by kernel_rfl) (by kernel_rfl) (fun _ _ _ h => h) (Or.inl ⟨by rfl, fun w _ => by have hss := @run_string_add_sum Tryz.prog w (strOfNums [1]) (strOfNums [1]) n1; go_simp; rfl⟩) hHeld ?_
    simp only [Act.put, List.setIfInBounds_toArray, List.set_cons_zero, List.set_cons_succ]
    refine wpAnyH_ready (rs := [10]) (by kernel_rfl) (by simp) (AllReadyH.cons (o := { dst := some 7, op := _, type := _, pos := _, after := _, guard := _ }) rfl (fun K hK => ?_) AllReadyH.nil)
    go_simp
    refine hK.out _ _ hHeld (fun hHeld => ?_)
    clear hK K
    refine wpAnyH_done (by kernel_rfl) ?_ _
    generalize hv : strOfNums [1] ++ strOfNums [1] = v
    have hvs : v.size = 2 := by rw [← hv]; simp only [ByteArray.size_append, strOfNums_size, List.length]
    clear hv
    obtain ⟨c0, c1, c2, c3, c4, c5, c6, c7⟩ := hHeld.cells
    go_wp2
    refine wp_region_held_drew (S := fun w' => PS w w' (.int .i64 1) (.int .u32 1) (.int .u64 0) (.int .u64 1099511627776) (.slice none 0 0)) (by kernel_rfl) hHeld.drew (fun hHeld => ?_)
    clear c0 c1 c2 c3 c4 c5 c6 c7
    refine wpAnyH_take (i := 0) (oi := { dst := some 27, op := _, type := _, pos := _, after := _, guard := _ }) rfl (by kernel_rfl) (by kernel_rfl) (by kernel_rfl) (fun _ _ _ h => h) (Or.inl ⟨by rfl, fun w hS => by obtain ⟨c0, c1, c2, c3, c4, c5, c6, c7⟩ := hS.cells; go_simp; rfl⟩) hHeld ?_
    simp only [Act.put, List.setIfInBounds_toArray, List.set_cons_zero, List.set_cons_succ]
    refine wpAnyH_take (i := 1) (oi := { dst := some 28, op := _, type := _, pos := _, after := _, guard := _ }) rfl (by kernel_rfl) (by kernel_rfl) (by kernel_rfl) (fun _ _ _ h => h) (Or.inl ⟨by rfl, fun w hS => by obtain ⟨c0, c1, c2, c3, c4, c5, c6, c7⟩ := hS.cells; go_simp; rfl⟩) hHeld ?_
    simp only [Act.put, List.setIfInBounds_toArray, List.set_cons_zero, List.set_cons_succ]
    refine wpAnyH_take (i := 2) (oi := { dst := some 29, op := _, type := _, pos := _, after := _, guard := _ }) rfl (by kernel_rfl) (by kernel_rfl) (by kernel_rfl) (fun _ _ _ h => h) (Or.inl ⟨by rfl, fun w hS => by obtain ⟨c0, c1, c2, c3, c4, c5, c6, c7⟩ := hS.cells; go_simp; rfl⟩) hHeld ?_
    simp only [Act.put, List.setIfInBounds_toArray, List.set_cons_zero, List.set_cons_succ]
    refine wpAnyH_take (i := 5) (oi := { dst := some 32, op := _, type := _, pos := _, after := _, guard := _ }) rfl (by kernel_rfl) (by kernel_rfl) (by kernel_rfl) (fun _ _ _ h => h) (Or.inl ⟨by rfl, fun w hS => by obtain ⟨c0, c1, c2, c3, c4, c5, c6, c7⟩ := hS.cells; go_simp; rfl⟩) hHeld ?_
    simp only [Act.put, List.setIfInBounds_toArray, List.set_cons_zero, List.set_cons_succ]
    refine wpAnyH_take (i := 6) (oi := { dst := some 33, op := _, type := _, pos := _, after := _, guard := _ }) rfl (by kernel_rfl) (by kernel_rfl) (by kernel_rfl) (fun _ _ _ h => h) (Or.inl ⟨by rfl, fun w hS => by obtain ⟨c0, c1, c2, c3, c4, c5, c6, c7⟩ := hS.cells; go_simp; rfl⟩) hHeld ?_
    simp only [Act.put, List.setIfInBounds_toArray, List.set_cons_zero, List.set_cons_succ]
    refine wpAnyH_ready (rs := [3]) (by kernel_rfl) (by simp) (AllReadyH.cons (o := { dst := some 30, op := _, type := _, pos := _, after := _, guard := _ }) rfl (fun K hK => ?_) AllReadyH.nil)
    go_simp
    refine (varint_w 0 (by decide) (by decide) _).mono ?_
    rintro e wp1 ⟨⟨p1, rfl, hp1⟩, hbp1⟩
    refine hK.out _ _ (hHeld.kept hbp1) (fun hHeld => ?_)
    clear hK K
    refine wpAnyH_take (i := 4) (oi := { dst := some 31, op := _, type := _, pos := _, after := _, guard := _ }) rfl (by kernel_rfl) (by kernel_rfl) (by kernel_rfl) (fun _ _ _ h => h) (Or.inl ⟨by rfl, fun w _ => by have hss := @run_string_add_sum Tryz.prog w v p1 (by omega); go_simp; rfl⟩) hHeld ?_
    simp only [Act.put, List.setIfInBounds_toArray, List.set_cons_zero, List.set_cons_succ]
    refine wpAnyH_ready (rs := [7]) (by kernel_rfl) (by simp) (AllReadyH.cons (o := { dst := some 34, op := _, type := _, pos := _, after := _, guard := _ }) rfl (fun K hK => ?_) AllReadyH.nil)
    go_simp
    refine (varint_w 1099511627776 (by decide) (by decide) _).mono ?_
    rintro e wp2 ⟨⟨p2, rfl, hp2⟩, hbp2⟩
    refine hK.out _ _ (hHeld.kept hbp2) (fun hHeld => ?_)
    clear hK K
    refine wpAnyH_take (i := 8) (oi := { dst := some 35, op := _, type := _, pos := _, after := _, guard := _ }) rfl (by kernel_rfl) (by kernel_rfl) (by kernel_rfl) (fun _ _ _ h => h) (Or.inl ⟨by rfl, fun w _ => by have hss := @run_string_add_sum Tryz.prog w (v ++ p1) p2 (by rw [ByteArray.size_append]; omega); go_simp; rfl⟩) hHeld ?_
    simp only [Act.put, List.setIfInBounds_toArray, List.set_cons_zero, List.set_cons_succ]
    refine wpAnyH_ready (rs := [9]) (by kernel_rfl) (by simp) (AllReadyH.cons (o := { dst := some 7, op := _, type := _, pos := _, after := _, guard := _ }) rfl (fun K hK => ?_) AllReadyH.nil)
    go_simp
    refine hK.out _ _ hHeld (fun hHeld => ?_)
    clear hK K
    refine wpAnyH_done (by kernel_rfl) ?_ _
    generalize hv2 : v ++ p1 ++ p2 = v2
    have hvs2 : 2 ≤ v2.size ∧ v2.size ≤ 30 := by rw [← hv2]; simp only [ByteArray.size_append]; omega
    clear hv2
    obtain ⟨c0, c1, c2, c3, c4, c5, c6, c7⟩ := hHeld.cells
    have hdg := conv3 _ _ c4 c5 c6
    have h3s := strOfNums_size [0, 0, 0]
    have hss3 := fun W => @run_string_add_sum Tryz.prog W v2 (strOfNums [0, 0, 0]) (by rw [h3s, List.length_cons, List.length_cons, List.length_cons, List.length_nil]; omega)
    have HR : Hid (World.rangeAt _ w.heap.size 0 (rowOf 72 fun j => .int .u32 (RV j)).toList) := range72 hHeld.roots
    have hA : 2 ≤ (v2 ++ strOfNums [0, 0, 0]).size ∧ (v2 ++ strOfNums [0, 0, 0]).size ≤ 900 := by rw [ByteArray.size_append, h3s, List.length_cons, List.length_cons, List.length_cons, List.length_nil]; omega
    go_wp2_with (first | (refine wpList_load_mid rfl 80 _ rfl w.heap.size 0 rfl _ _ HR.out Tryz.underlying80 rfl (by rw [Array.length_toList, rowOf_size]; exact info30) ?_; simp only [Array.toArray_toList]) | (go_at_call 75; refine (short_w _ (by omega) _).mono ?_; rintro e w9 ⟨⟨t, rfl, ht⟩, hb9⟩; have hss9 := fun W => @run_string_add_sum Tryz.prog W (v2 ++ strOfNums [0, 0, 0]) t (by omega)))
    go_ret2
    exact ⟨⟨_, rfl, by rw [ByteArray.size_append]; omega, by rw [ByteArray.size_append]; omega⟩, (hHeld.kept hb9).below⟩
end Go.Proofs.YtgccjefbedpmpaaGreatDoor

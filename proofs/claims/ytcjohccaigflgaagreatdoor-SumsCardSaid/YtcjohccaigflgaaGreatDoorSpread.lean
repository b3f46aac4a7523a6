import Derived.Test.YtcjohccaigflgaaGreatDoorTail
namespace Go.Proofs.YtcjohccaigflgaaGreatDoor
open Go.RowKit
theorem info90 : (Tryz.prog.info? 121).map (·.size) = some 32 := by kernel_rfl
/-- The n-th byte of a state. -/
def outB (s : Nat → Int) (n : Nat) : Int := s (n / 4) / 2 ^ (24 - 8 * (n % 4)) % 256
def spTo (s : Nat → Int) (c n : Nat) : Value := .int .u8 (if n < c then outB s n else 0)
theorem spTo_step (s : Nat → Int) (k j : Nat) : (if j = k then Value.int .u8 (outB s k) else spTo s k j) = spTo s (k + 1) j := by
  unfold spTo
  by_cases h : j = k
  · subst h; simp
  · by_cases h' : j < k
    · simp [h, h', show j < k + 1 by omega]
    · simp [h, h', show ¬ j < k + 1 by omega]
theorem sp_start (s : Nat → Int) : #[Value.int .u8 0, Value.int .u8 0, Value.int .u8 0, Value.int .u8 0, Value.int .u8 0, Value.int .u8 0, Value.int .u8 0, Value.int .u8 0, Value.int .u8 0, Value.int .u8 0, Value.int .u8 0, Value.int .u8 0, Value.int .u8 0, Value.int .u8 0, Value.int .u8 0, Value.int .u8 0, Value.int .u8 0, Value.int .u8 0, Value.int .u8 0, Value.int .u8 0, Value.int .u8 0, Value.int .u8 0, Value.int .u8 0, Value.int .u8 0, Value.int .u8 0, Value.int .u8 0, Value.int .u8 0, Value.int .u8 0, Value.int .u8 0, Value.int .u8 0, Value.int .u8 0, Value.int .u8 0] = rowOf 32 (spTo s 0) := by
  have : rowOf 32 (fun _ => Value.int .u8 0) = rowOf 32 (spTo s 0) := rowOf_congr fun j _ => by simp [spTo]
  rw [← this]; rfl
theorem index8_0 (s : Nat → Int) (w : World) : (Instr.index 75 (.agg #[.int .u32 (s 0), .int .u32 (s 1), .int .u32 (s 2), .int .u32 (s 3), .int .u32 (s 4), .int .u32 (s 5), .int .u32 (s 6), .int .u32 (s 7)]) (.int .i64 0)).run Tryz.prog w = .ok (.int .u32 (s 0)) w := by kernel_rfl
theorem index8_1 (s : Nat → Int) (w : World) : (Instr.index 75 (.agg #[.int .u32 (s 0), .int .u32 (s 1), .int .u32 (s 2), .int .u32 (s 3), .int .u32 (s 4), .int .u32 (s 5), .int .u32 (s 6), .int .u32 (s 7)]) (.int .i64 1)).run Tryz.prog w = .ok (.int .u32 (s 1)) w := by kernel_rfl
theorem index8_2 (s : Nat → Int) (w : World) : (Instr.index 75 (.agg #[.int .u32 (s 0), .int .u32 (s 1), .int .u32 (s 2), .int .u32 (s 3), .int .u32 (s 4), .int .u32 (s 5), .int .u32 (s 6), .int .u32 (s 7)]) (.int .i64 2)).run Tryz.prog w = .ok (.int .u32 (s 2)) w := by kernel_rfl
theorem index8_3 (s : Nat → Int) (w : World) : (Instr.index 75 (.agg #[.int .u32 (s 0), .int .u32 (s 1), .int .u32 (s 2), .int .u32 (s 3), .int .u32 (s 4), .int .u32 (s 5), .int .u32 (s 6), .int .u32 (s 7)]) (.int .i64 3)).run Tryz.prog w = .ok (.int .u32 (s 3)) w := by kernel_rfl
theorem index8_4 (s : Nat → Int) (w : World) : (Instr.index 75 (.agg #[.int .u32 (s 0), .int .u32 (s 1), .int .u32 (s 2), .int .u32 (s 3), .int .u32 (s 4), .int .u32 (s 5), .int .u32 (s 6), .int .u32 (s 7)]) (.int .i64 4)).run Tryz.prog w = .ok (.int .u32 (s 4)) w := by kernel_rfl
theorem index8_5 (s : Nat → Int) (w : World) : (Instr.index 75 (.agg #[.int .u32 (s 0), .int .u32 (s 1), .int .u32 (s 2), .int .u32 (s 3), .int .u32 (s 4), .int .u32 (s 5), .int .u32 (s 6), .int .u32 (s 7)]) (.int .i64 5)).run Tryz.prog w = .ok (.int .u32 (s 5)) w := by kernel_rfl
theorem index8_6 (s : Nat → Int) (w : World) : (Instr.index 75 (.agg #[.int .u32 (s 0), .int .u32 (s 1), .int .u32 (s 2), .int .u32 (s 3), .int .u32 (s 4), .int .u32 (s 5), .int .u32 (s 6), .int .u32 (s 7)]) (.int .i64 6)).run Tryz.prog w = .ok (.int .u32 (s 6)) w := by kernel_rfl
theorem index8_7 (s : Nat → Int) (w : World) : (Instr.index 75 (.agg #[.int .u32 (s 0), .int .u32 (s 1), .int .u32 (s 2), .int .u32 (s 3), .int .u32 (s 4), .int .u32 (s 5), .int .u32 (s 6), .int .u32 (s 7)]) (.int .i64 7)).run Tryz.prog w = .ok (.int .u32 (s 7)) w := by kernel_rfl
theorem index8 (s : Nat → Int) (i : Nat) (hi : i < 8) (w : World) : (Instr.index 75 (.agg #[.int .u32 (s 0), .int .u32 (s 1), .int .u32 (s 2), .int .u32 (s 3), .int .u32 (s 4), .int .u32 (s 5), .int .u32 (s 6), .int .u32 (s 7)]) (.int .i64 (i : Int))).run Tryz.prog w = .ok (.int .u32 (s i)) w := by
  have h : i = 0 ∨ i = 1 ∨ i = 2 ∨ i = 3 ∨ i = 4 ∨ i = 5 ∨ i = 6 ∨ i = 7 := by omega
  rcases h with rfl | rfl | rfl | rfl | rfl | rfl | rfl | rfl
  · exact index8_0 s w
  · exact index8_1 s w
  · exact index8_2 s w
  · exact index8_3 s w
  · exact index8_4 s w
  · exact index8_5 s w
  · exact index8_6 s w
  · exact index8_7 s w
theorem sp_rel {wr : World} {g : Nat} {s : Nat → Int} {i j : Nat} (hj : j < 4) (hr : RowIs wr g 121 32 (spTo s (4 * i + j))) :
    RowIs (wr.setCell ⟨g, 4 * i + j, none⟩ (.int .u8 (s i / 2 ^ (24 - 8 * j) % 256))) g 121 32 (spTo s (4 * i + (j + 1))) := by
  refine (hr.set (4 * i + j) _).congr fun n _ => ?_
  rw [← Nat.add_assoc, ← spTo_step s (4 * i + j) n]
  have e : outB s (4 * i + j) = s i / 2 ^ (24 - 8 * j) % 256 := by
    unfold outB; rw [show (4 * i + j) / 4 = i by omega, show (4 * i + j) % 4 = j by omega]
  rw [e]
theorem sp_end (s : Nat → Int) : rowOf 32 (spTo s 32) = rowOf 32 (fun n => .int .u8 (outB s n)) := rowOf_congr fun n hn => by simp [spTo, hn]
theorem rows3 (w : World) (A B C : Obj) : let w4 := ((w.alloc A).alloc B).alloc C
    w4.heap[w.heap.size]? = some A ∧ w4.heap[w.heap.size + 1]? = some B ∧ w4.heap[w.heap.size + 1 + 1]? = some C ∧ Below w.heap.size w w4 := by
  intro w4
  refine ⟨?_, ?_, heap_last (by simp), ?_⟩
  · rw [show w4.heap[w.heap.size]? = _ from heap_old (by simp <;> omega), heap_old (by simp)]; exact heap_last rfl
  · rw [show w4.heap[w.heap.size + 1]? = _ from heap_old (by simp)]; exact heap_last (by simp)
  · exact (((Below.refl _ _).alloc (Nat.le_refl _) _).alloc (by simp) _).alloc (by simp <;> omega) _
set_option maxHeartbeats 1000000 in
theorem spread_any (s : Nat → Int) (w : World) (hs : ∀ j, W32 (s j)) :
   Calls Tryz.prog 165 #[.agg #[.int .u32 (s 0), .int .u32 (s 1), .int .u32 (s 2), .int .u32 (s 3), .int .u32 (s 4), .int .u32 (s 5), .int .u32 (s 6), .int .u32 (s 7)]] w fun e w' => e = .returned (.agg (rowOf 32 fun n => .int .u8 (outB s n))) ∧ Below w.heap.size w w' := by
  go_enter Tryz.func165, Tryz.ntmps165
  go_wp2
  go_loopw [8] (fun i wr => ∃ k : Nat, k ≤ 8 ∧ i = .int .i64 k ∧ RowIs wr (w.heap.size + 2) 121 32 (spTo s (4 * k)) ∧ RowIs wr (w.heap.size + 1) 121 32 (spTo s 0) ∧ Below w.heap.size w wr)
    (fun i _ => 8 - (intOf i).toNat)
  case atStart =>
    obtain ⟨r1, r2, r3, r4⟩ := rows3 w (.cells #[.int .u32 (s 0), .int .u32 (s 1), .int .u32 (s 2), .int .u32 (s 3), .int .u32 (s 4), .int .u32 (s 5), .int .u32 (s 6), .int .u32 (s 7)] 75) (.cells #[.int .u8 0, .int .u8 0, .int .u8 0, .int .u8 0, .int .u8 0, .int .u8 0, .int .u8 0, .int .u8 0, .int .u8 0, .int .u8 0, .int .u8 0, .int .u8 0, .int .u8 0, .int .u8 0, .int .u8 0, .int .u8 0, .int .u8 0, .int .u8 0, .int .u8 0, .int .u8 0, .int .u8 0, .int .u8 0, .int .u8 0, .int .u8 0, .int .u8 0, .int .u8 0, .int .u8 0, .int .u8 0, .int .u8 0, .int .u8 0, .int .u8 0, .int .u8 0] 121) (.cells #[.int .u8 0, .int .u8 0, .int .u8 0, .int .u8 0, .int .u8 0, .int .u8 0, .int .u8 0, .int .u8 0, .int .u8 0, .int .u8 0, .int .u8 0, .int .u8 0, .int .u8 0, .int .u8 0, .int .u8 0, .int .u8 0, .int .u8 0, .int .u8 0, .int .u8 0, .int .u8 0, .int .u8 0, .int .u8 0, .int .u8 0, .int .u8 0, .int .u8 0, .int .u8 0, .int .u8 0, .int .u8 0, .int .u8 0, .int .u8 0, .int .u8 0, .int .u8 0] 121)
    exact ⟨0, by omega, rfl, RowIs.of r3 (sp_start s), RowIs.of r2 (sp_start s), r4⟩
  case round =>
    obtain ⟨k, hk, rfl, hr, hz, hbl⟩ := hrel
    by_cases hlt : k < 8
    · have hix := index8 s k hlt
      obtain ⟨w0, w1⟩ := hs k
      clear hs
      go_wp2
      go_loopw [12] (fun i wr => ∃ j : Nat, j ≤ 4 ∧ i = .int .i64 j ∧ RowIs wr (w.heap.size + 2) 121 32 (spTo s (4 * k + j)) ∧ RowIs wr (w.heap.size + 1) 121 32 (spTo s 0) ∧ Below w.heap.size w wr)
        (fun i _ => 4 - (intOf i).toNat)
      case atStart => exact ⟨0, by omega, rfl, hr, hz, hbl⟩
      case round =>
        clear hr hz hbl
        obtain ⟨j, hj, rfl, hr, hz, hbl⟩ := hrel
        by_cases hjt : j < 4
        · have c0 := hr.cell (show 4 * k + j < 32 by omega)
          have f0 := hr.free (4 * k + j)
          go_wp2
          go_roundw
          case rel =>
            exact ⟨j + 1, by omega, by go_num, sp_rel hjt hr, hz.setOther (by show w.heap.size + 1 + 1 ≠ w.heap.size + 1; omega) _, hbl.setCell (by show w.heap.size ≤ w.heap.size + 1 + 1; omega) _⟩
          case measure => simp [intOf]; omega
        · obtain rfl : j = 4 := by omega
          go_wp2
          go_roundw
          case rel => exact ⟨k + 1, by omega, by go_num, hr, hz, hbl⟩
          case measure => simp [intOf]; omega
    · obtain rfl : k = 8 := by omega
      go_wp2_with (first | (refine wpList_load_row rfl 121 (.tmp 3) rfl (w.heap.size + 2) rfl _ _ (0, 0) _ hr Tryz.underlying121 rfl (by rw [rowOf_size]; exact info90) ?_) | (refine wpList_store_row rfl 121 (.tmp 2) (.tmp 28) rfl (w.heap.size + 1) _ rfl rfl _ _ hz (by rw [rowOf_size]; exact info90) (by rw [rowOf_size, rowOf_size]) (ints_one _ _ _) ?_))
      refine bodyPost_ret (v := .agg (rowOf 32 (spTo s 32))) (results_cell_row Tryz.results165 _ _ (w.heap.size + 1) 121 _ (0, 0) _ rfl (hz.setRow _) Tryz.underlying121 rfl (by rw [rowOf_size]; exact info90)) rfl ⟨?_, below_setRow' hbl (by omega) _⟩
      rw [sp_end]
end Go.Proofs.YtcjohccaigflgaaGreatDoor

import Derived.Test.YtcjohccaigflgaaGreatDoorVar
namespace Go.Proofs.YtcjohccaigflgaaGreatDoor
open Go.RowKit
theorem isKey0 (w : World) : Calls Tryz.prog 166 #[.int .u64 0] w fun e w' => e = .returned (.bool false) ∧ w' = w := by
  go_enter Tryz.func166, Tryz.ntmps166
  go_wp2
  go_ret
  exact ⟨rfl, rfl⟩
theorem isKey1 (w : World) : Calls Tryz.prog 166 #[.int .u64 1048577] w fun e w' => e = .returned (.bool true) ∧ w' = w := by
  go_enter Tryz.func166, Tryz.ntmps166
  go_wp2
  go_ret
  exact ⟨rfl, rfl⟩
theorem isChar_any (c : Int) (h : 32 ≤ c ∧ c ≤ 55295) (w : World) : Calls Tryz.prog 107 #[.int .i32 c] w fun e w' => e = .returned (.bool true) ∧ w' = w := by
  obtain ⟨h0, h1⟩ := h
  have h2 : c ≤ 1114111 := by omega
  have h3 : c < 55296 := by omega
  go_enter Tryz.func107, Tryz.ntmps107
  go_wp2
  go_ret
  exact ⟨rfl, rfl⟩
theorem keyA (w : World) : Calls Tryz.prog 98 #[.agg #[.int .i64 1, .int .u32 1, .int .u32 1, .int .u32 1, .int .u64 0, .int .i32 97]] w fun e w' => e = .returned (.int .u64 1048577) ∧ Below w.heap.size w w' := by
  go_enter Tryz.func98, Tryz.ntmps98
  go_wp2
  go_ret
  exact ⟨rfl, (Below.refl _ _).alloc (Nat.le_refl _) _⟩
theorem keyB (w : World) : Calls Tryz.prog 98 #[.agg #[.int .i64 1, .int .u32 1, .int .u32 2, .int .u32 2, .int .u64 1048577, .int .i32 98]] w fun e w' => e = .returned (.int .u64 1048578) ∧ Below w.heap.size w w' := by
  go_enter Tryz.func98, Tryz.ntmps98
  go_wp2
  go_ret
  exact ⟨rfl, (Below.refl _ _).alloc (Nat.le_refl _) _⟩
set_option maxHeartbeats 1000000 in
theorem isOpA (w : World) : Calls Tryz.prog 97 #[.agg #[.int .i64 1, .int .u32 1, .int .u32 1, .int .u32 1, .int .u64 0, .int .i32 97]] w fun e w' => e = .returned (.bool true) ∧ Below w.heap.size w w' := by
  go_enter Tryz.func97, Tryz.ntmps97
  go_wp2_with (first
    | (go_at_call 166; refine (isKey0 _).mono ?_; rintro e w1 ⟨rfl, rfl⟩)
    | (go_at_call 107; refine (isChar_any 97 (by decide) _).mono ?_; rintro e w2 ⟨rfl, rfl⟩)
    | (go_at_call 98; refine (keyA _).mono ?_; rintro e w3 ⟨rfl, hb3⟩; have n0 : w3.cell? ⟨w.heap.size, 0, none⟩ = some (.int .i64 1) := (hb3.cell (p := ⟨w.heap.size, 0, none⟩) (by simp)).trans ((cell_of_row _ _ _ _ _ _ (heap_alloc_new w _)).trans rfl); have n4 : w3.cell? ⟨w.heap.size, 4, none⟩ = some (.int .u64 0) := (hb3.cell (p := ⟨w.heap.size, 4, none⟩) (by simp)).trans ((cell_of_row _ _ _ _ _ _ (heap_alloc_new w _)).trans rfl)))
  go_ret
  exact ⟨rfl, ((Below.refl _ _).alloc (Nat.le_refl _) _).trans (hb3.mono (by simp))⟩
set_option maxHeartbeats 1000000 in
theorem isOpB (w : World) : Calls Tryz.prog 97 #[.agg #[.int .i64 1, .int .u32 1, .int .u32 2, .int .u32 2, .int .u64 1048577, .int .i32 98]] w fun e w' => e = .returned (.bool true) ∧ Below w.heap.size w w' := by
  go_enter Tryz.func97, Tryz.ntmps97
  go_wp2_with (first
    | (go_at_call 166; refine (isKey1 _).mono ?_; rintro e w1 ⟨rfl, rfl⟩)
    | (go_at_call 107; refine (isChar_any 98 (by decide) _).mono ?_; rintro e w2 ⟨rfl, rfl⟩)
    | (go_at_call 98; refine (keyB _).mono ?_; rintro e w3 ⟨rfl, hb3⟩; have n0 : w3.cell? ⟨w.heap.size, 0, none⟩ = some (.int .i64 1) := (hb3.cell (p := ⟨w.heap.size, 0, none⟩) (by simp)).trans ((cell_of_row _ _ _ _ _ _ (heap_alloc_new w _)).trans rfl); have n4 : w3.cell? ⟨w.heap.size, 4, none⟩ = some (.int .u64 1048577) := (hb3.cell (p := ⟨w.heap.size, 4, none⟩) (by simp)).trans ((cell_of_row _ _ _ _ _ _ (heap_alloc_new w _)).trans rfl)))
  go_ret
  exact ⟨rfl, ((Below.refl _ _).alloc (Nat.le_refl _) _).trans (hb3.mono (by simp))⟩
end Go.Proofs.YtcjohccaigflgaaGreatDoor

import Derived.Test.YtcjohccaigflgaaGreatDoorLent
namespace Go.Proofs.YtcjohccaigflgaaGreatDoor
open Go.RowKit
theorem idxS (m : ByteArray) (i : Nat) (h : i < m.size) (w : World) : (Instr.index 9 (.string m) (.int .i64 (i : Int))).run Tryz.prog w = .ok (.int .u8 (mBy m i)) w := by
  rw [run_index_string w _ _ _ _ Tryz.underlying9, dif_pos ⟨by omega, by omega⟩]
  have e : m.data.toList[i]? = some m[i] := by rw [List.getElem?_eq_getElem (by simpa using h)]; rfl
  simp only [Int.toNat_natCast, mBy, e, Option.getD_some]
set_option maxRecDepth 100000 in
set_option maxHeartbeats 1000000 in
theorem still_any (s : ByteArray) (g cap : Nat) (hs : s.size ≤ 140737488351232) (w : World) (hc : ∀ i, i < s.size + 8 → w.cell? ⟨g, i, none⟩ = some (lentC s (s.size + 8) i)) :
    Calls Tryz.prog 105 #[.slice (some ⟨g, 0, none⟩) (s.size + 8) cap, .string s] w fun e w' => e = .returned (.bool true) ∧ ∃ nq, w' = w.drewN nq := by
  have hix := fun i hi => idxS s i hi
  generalize hS : s.size = S at *
  have Hix : Hid (∀ i, i < S → ∀ w, (Instr.index 9 (.string s) (.int .i64 (i : Int))).run Tryz.prog w = .ok (.int .u8 (mBy s i)) w) := hix
  have Hc : Hid (∀ i, i < S + 8 → w.cell? ⟨g, i, none⟩ = some (lentC s (S + 8) i)) := hc
  clear hix hc
  go_enter Tryz.func105, Tryz.ntmps105
  go_wp2
  go_loopw [5] (fun i wr => ∃ k : Nat, k ≤ S + 8 ∧ i = .int .i64 k ∧ ∃ nq, wr = w.drewN nq) (fun i _ => S + 8 - (intOf i).toNat)
  case atStart => exact ⟨0, by omega, rfl, 0, rfl⟩
  case round =>
    obtain ⟨k, hk, rfl, nq, rfl⟩ := hrel
    by_cases hlt : k < S + 8
    · by_cases h1 : k < S
      · have hx := Hix.out k h1
        have c0 : w.cell? ⟨g, k, none⟩ = some (.int .u8 (mBy s k)) := by rw [Hc.out k hlt]; unfold lentC; rw [if_pos (by omega)]
        have lk : (k : Int) < (S : Int) + 8 := by omega
        have l1 : (k : Int) < (S : Int) := by omega
        have l2 : decide (S ≤ k) = false := by simp; omega
        go_wp2
        go_quiet (fail)
        go_wp2
        go_roundw
        case rel => exact ⟨k + 1, hlt, by go_num, _, rfl⟩
        case measure => simp [intOf]; omega
      · have c0 : w.cell? ⟨g, k, none⟩ = some (.int .u8 201) := by rw [Hc.out k hlt]; unfold lentC; rw [if_neg (by omega), if_pos hlt]
        have lk : (k : Int) < (S : Int) + 8 := by omega
        have l1 : decide ((k : Int) < (S : Int)) = false := by simp; omega
        have l2 : (S : Int) ≤ (k : Int) := by omega
        go_wp2
        go_quiet (fail)
        go_wp2
        go_roundw
        case rel => exact ⟨k + 1, hlt, by go_num, _, rfl⟩
        case measure => simp [intOf]; omega
    · obtain rfl : k = S + 8 := by omega
      go_wp2
      go_ret
      exact ⟨rfl, _, rfl⟩
end Go.Proofs.YtcjohccaigflgaaGreatDoor

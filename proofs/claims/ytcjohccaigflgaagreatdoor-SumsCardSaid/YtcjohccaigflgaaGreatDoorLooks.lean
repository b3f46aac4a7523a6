import Derived.Test.YtcjohccaigflgaaGreatDoorHold
namespace Go.Proofs.YtcjohccaigflgaaGreatDoor
open Go.RowKit
/-- The cells of the world of a script: the roots, the players, the holds. -/
def wcell (R : Nat → Int) (vP vH : Value) (j : Nat) : Value := if j < 72 then .int .u32 (R j) else if j = 72 then vP else vH
def ptrs (hs : List Nat) : List Value := hs.map fun b => .pointer (some ⟨b, 0, none⟩)
/-- All that the script has made reads as its owner wrote it; F: the blocks of the holds. -/
structure WOk (w : World) (wd : Nat) (R : Nat → Int) (vP vH : Value) (F : Nat → Prop) (hs : List Nat) : Prop where
  row : RowIs w wd 88 74 (wcell R vP vH)
  own : w.ownsRow 0 142 1 vH hs.length (ptrs hs)
  holds : ∀ hb ∈ hs, ∃ mk nb no nl, HoldOk w F hb mk nb no nl
  apart : ¬ F wd ∧ ∀ g, vH.ownBlock = some g → ¬ F g ∧ g ≠ wd
  below : ∀ b, F b → b < w.heap.size
set_option maxHeartbeats 1000000 in
theorem looks_any {w : World} {wd : Nat} {R : Nat → Int} {vP vH : Value} {F : Nat → Prop} {hs : List Nat} (h : WOk w wd R vP vH F hs) :
    Calls Tryz.prog 37 #[.pointer (some ⟨wd, 0, none⟩)] w fun e w' => e = .returned (.bool true) ∧ Below w.heap.size w w' := by
  obtain ⟨hr, ho, hh, ha, hF⟩ := h
  obtain ⟨ao, cp, rfl, hv⟩ := own_viewN ho
  have hl := own_len ho
  have hwl := hr.lt
  have c73 : w.cell? ⟨wd, 73, none⟩ = some (.slice ao hs.length cp) := hr.cell (by omega)
  generalize hn : hs.length = n at *
  have Hn : Hid (hs.length = n) := hn
  clear hn hr ha
  go_enter Tryz.func37, Tryz.ntmps37
  go_wp2
  go_loopw [3] (fun i wr => ∃ k : Nat, k ≤ n ∧ i = .int .i64 k ∧ Below w.heap.size w wr) (fun i _ => n - (intOf i).toNat)
  case atStart => exact ⟨0, Nat.zero_le _, rfl, Below.refl _ _⟩
  case round =>
    obtain ⟨k, hk, rfl, hbl⟩ := hrel
    have c73' : wr.cell? ⟨wd, 73, none⟩ = some (.slice ao n cp) := (hbl.cell hwl).trans c73
    by_cases hlt : k < n
    · obtain ⟨g, rfl, hc⟩ := hv k hlt
      have hlk : k < hs.length := by rw [Hn.out]; exact hlt
      have ck : w.cell? ⟨g, k, none⟩ = some (.pointer (some ⟨hs[k], 0, none⟩)) := (hc k (by omega)).trans (by simp [ptrs, hlk])
      have ck' : wr.cell? ⟨g, k, none⟩ = some (.pointer (some ⟨hs[k], 0, none⟩)) := (hbl.cell (block_lt_of_cell ck)).trans ck
      obtain ⟨mk, nb, no, nl, hk4⟩ := hh hs[k] (List.getElem_mem hlk)
      have hk5 := hk4.frame (w' := wr) fun b hb => hbl.block b (hF b hb)
      generalize hs[k] = hb at ck' hk5
      have lk : (k : Int) < (n : Int) := by omega
      clear ck hk4 hv hh hc c73 ho
      go_wp2_with (go_at_call 69; refine (marked_any hk5 (fun b hb => Nat.lt_of_lt_of_le (hF b hb) hbl.size)).mono ?_; rintro e w1 ⟨rfl, hb1⟩)
      go_roundw
      case rel => exact ⟨k + 1, hlt, by go_num, hbl.trans (hb1.mono hbl.size)⟩
      case measure => simp [intOf]; omega
    · obtain rfl : k = n := by omega
      clear hv hh c73 ho
      go_wp2
      go_ret
      exact ⟨rfl, hbl⟩
end Go.Proofs.YtcjohccaigflgaaGreatDoor

import Derived.Test.YtgccjefbedpmpaaGreatDoorGLess
import Derived.Test.YtgccjefbedpmpaaGreatDoorZWords
import Derived.Lib.BufferWrite
import Derived.Deep.WholeRow
namespace Go.Proofs.YtgccjefbedpmpaaGreatDoor
open Go.RowKit
def mBy (m : ByteArray) (i : Nat) : Int := ((m.data.toList[i]?.getD 0).toNat : Int)
theorem infoU8 : (Tryz.prog.info? 5).map (fun i => (i.zero, i.size, i.bytes)) = some (some (.int .u8 0), 1, 1) := by kernel_rfl
/-- What is lent: the bytes, and 201 behind them, from place k on. -/
def lentC (s : ByteArray) (k i : Nat) : Value := .int .u8 (if i < s.size then mBy s i else if i < k then 201 else 0)
theorem lent_copy (s : ByteArray) (w : World) : (Builtin.copy_ #[59, 9] 3 #[.slice (some ⟨w.heap.size, 0, none⟩) (s.size + 8) (s.size + 8), .string s]).run Tryz.prog (w.alloc (.cells (rowOf (s.size + 8) fun _ => .int .u8 0) 5)) = .ok (goInt s.size) (w.alloc (.cells (rowOf (s.size + 8) (lentC s s.size)) 5)) := by
  rw [Lib.run_copy_row_string (P := Tryz.prog) _ 59 9 3 5 w.heap.size 0 (s.size + 8) (s.size + 8) s _ 5 Tryz.underlying59 (by kernel_rfl) (heap_alloc_new _ _) (by omega) (by simp), World.setRow_alloc_new]
  congr 3
  refine rowOf_ext ?_ fun j hj => ?_
  · simp [Lib.byteCells]
  · have hsz : (Lib.byteCells s.data.toList).length = s.size := by simp [Lib.byteCells]
    rw [List.getElem?_toArray, List.take_zero, List.nil_append, Nat.zero_add]
    by_cases h : j < s.size
    · rw [List.getElem?_append_left (by omega)]
      unfold lentC mBy
      rw [if_pos h]
      have h2 : j < s.data.toList.length := by simpa using h
      rw [Lib.byteCells, List.getElem?_map, List.getElem?_eq_getElem h2]; rfl
    · rw [List.getElem?_append_right (by omega), hsz, List.getElem?_drop, Array.getElem?_toList, rowOf_get _ (by omega)]
      unfold lentC
      rw [if_neg h, if_neg h]
theorem lent_step (s : ByteArray) (k : Nat) (hk : s.size ≤ k) (j : Nat) : (if j = k then Value.int .u8 201 else lentC s k j) = lentC s (k + 1) j := by
  unfold lentC
  by_cases h : j = k
  · subst h; rw [if_pos rfl, if_neg (by omega), if_pos (by omega)]
  · rw [if_neg h]
    have e : j < k + 1 ↔ j < k := by omega
    simp only [e]
set_option maxRecDepth 100000 in
set_option maxHeartbeats 1000000 in
theorem lent_any (s : ByteArray) (hs : s.size ≤ 140737488351232) (w : World) :
    Calls Tryz.prog 126 #[.string s] w fun e w' => e = .returned (.slice (some ⟨w.heap.size, 0, none⟩) (s.size + 8) (s.size + 8)) ∧ RowIs w' w.heap.size 5 (s.size + 8) (lentC s (s.size + 8)) ∧ Below w.heap.size w w' := by
  obtain ⟨i0, hi, hz0, hz1, hz2⟩ := info_parts infoU8
  have hmk := make_row (t := 59) Tryz.underlying59 hi hz0 hz1 rfl ((s.size : Int) + 8) (s.size + 8) (by omega) (by rw [hz2]; omega) (by omega)
  clear hi hz0 hz1 hz2
  have hcp := lent_copy s w
  have hst := fun k hk j => lent_step s k hk j
  generalize hS : s.size = S at *
  have HS : Hid (∀ k, S ≤ k → ∀ j, (if j = k then Value.int .u8 201 else lentC s k j) = lentC s (k + 1) j) := hst
  clear hst
  go_enter Tryz.func126, Tryz.ntmps126
  go_wp2
  go_loopw [4] (fun i wr => ∃ k : Nat, S ≤ k ∧ k ≤ S + 8 ∧ i = .int .i64 k ∧ RowIs wr w.heap.size 5 (S + 8) (lentC s k) ∧ Below w.heap.size w wr) (fun i _ => S + 8 - (intOf i).toNat)
  case atStart => exact ⟨S, by omega, by omega, rfl, RowIs.new _ _ _ _, (Below.refl _ _).alloc (Nat.le_refl _) _⟩
  case round =>
    obtain ⟨k, hk1, hk2, rfl, hr, hbl⟩ := hrel
    clear hcp hmk
    by_cases hlt : k < S + 8
    · have c0 := hr.cell hlt
      have f0 := hr.free k
      have lk : (k : Int) < (S : Int) + 8 := by omega
      go_wp2
      go_roundw
      case rel => exact ⟨k + 1, by omega, by omega, by go_num, (hr.set k _).congr fun j _ => HS.out k hk1 j, hbl.setCell (Nat.le_refl _) _⟩
      case measure => simp [intOf]; omega
    · obtain rfl : k = S + 8 := by omega
      go_wp2
      go_ret
      exact ⟨rfl, hr, hbl⟩
end Go.Proofs.YtgccjefbedpmpaaGreatDoor
namespace Go.Proofs.YtgccjefbedpmpaaGreatDoor
open Go.RowKit
theorem idxS (m : ByteArray) (i : Nat) (h : i < m.size) (w : World) : (Instr.index 9 (.string m) (.int .i64 (i : Int))).run Tryz.prog w = .ok (.int .u8 (mBy m i)) w := by
  rw [run_index_string w _ _ _ _ Tryz.underlying9, dif_pos ⟨by omega, by omega⟩]
  have e : m.data.toList[i]? = some m[i] := by rw [List.getElem?_eq_getElem (by simpa using h)]; rfl
  simp only [Int.toNat_natCast, mBy, e, Option.getD_some]
set_option maxRecDepth 100000 in
set_option maxHeartbeats 1000000 in
theorem still_any (s : ByteArray) (g cap : Nat) (hs : s.size ≤ 140737488351232) (w : World) (hc : ∀ i, i < s.size + 8 → w.cell? ⟨g, i, none⟩ = some (lentC s (s.size + 8) i)) :
    Calls Tryz.prog 131 #[.slice (some ⟨g, 0, none⟩) (s.size + 8) cap, .string s] w fun e w' => e = .returned (.bool true) ∧ ∃ nq, w' = w.drewN nq := by
  have hix := fun i hi => idxS s i hi
  generalize hS : s.size = S at *
  have Hix : Hid (∀ i, i < S → ∀ w, (Instr.index 9 (.string s) (.int .i64 (i : Int))).run Tryz.prog w = .ok (.int .u8 (mBy s i)) w) := hix
  have Hc : Hid (∀ i, i < S + 8 → w.cell? ⟨g, i, none⟩ = some (lentC s (S + 8) i)) := hc
  clear hix hc
  go_enter Tryz.func131, Tryz.ntmps131
  go_wp2
  go_loopw [5] (fun i wr => ∃ k : Nat, k ≤ S + 8 ∧ i = .int .i64 k ∧ ∃ nq, wr = w.drewN nq) (fun i _ => S + 8 - (intOf i).toNat)
  case atStart => exact ⟨0, by omega, rfl, 0, rfl⟩
  case round =>
    obtain ⟨k, hk, rfl, nq, rfl⟩ := hrel
    by_cases hlt : k < S + 8
    · by_cases h1 : k < S
      · have hx := Hix.out k h1
        have c0 : w.cell? ⟨g, k, none⟩ = some (.int .u8 (mBy s k)) := by rw [Hc.out k hlt]; unfold lentC; rw [if_pos (by omega)]
        have lk : (k : Int) < (S : Int) + 8 := by omega
        have l1 : (k : Int) < (S : Int) := by omega
        have l2 : decide (S ≤ k) = false := by simp; omega
        go_wp2
        go_quiet (fail)
        go_wp2
        go_roundw
        case rel => exact ⟨k + 1, hlt, by go_num, _, rfl⟩
        case measure => simp [intOf]; omega
      · have c0 : w.cell? ⟨g, k, none⟩ = some (.int .u8 201) := by rw [Hc.out k hlt]; unfold lentC; rw [if_neg (by omega), if_pos hlt]
        have lk : (k : Int) < (S : Int) + 8 := by omega
        have l1 : decide ((k : Int) < (S : Int)) = false := by simp; omega
        have l2 : (S : Int) ≤ (k : Int) := by omega
        go_wp2
        go_quiet (fail)
        go_wp2
        go_roundw
        case rel => exact ⟨k + 1, hlt, by go_num, _, rfl⟩
        case measure => simp [intOf]; omega
    · obtain rfl : k = S + 8 := by omega
      go_wp2
      go_ret
      exact ⟨rfl, _, rfl⟩
end Go.Proofs.YtgccjefbedpmpaaGreatDoor

import Derived.Test.YtcjohccaigflgaaGreatDoorLess
namespace Go.Proofs.YtcjohccaigflgaaGreatDoor
open Go.RowKit
def ptF (p : Int) (n : Nat) : Nat → Int
  | 0 => 0
  | k + 1 => if lessF (bits .or .u64 (ptF p n k) (IntKind.u64.wrap (2 ^ (36 - k)))) n p then bits .or .u64 (ptF p n k) (IntKind.u64.wrap (2 ^ (36 - k))) else ptF p n k
theorem bits_u64 (o : BinOp) (x y : Int) : 0 ≤ bits o .u64 x y := by
  simp only [bits, IntKind.wrap, IntKind.bits, IntKind.signed]
  simp only [Bool.false_and, Bool.false_eq_true, if_false]
  omega
theorem ptF_nn (p : Int) (n k : Nat) : 0 ≤ ptF p n k := by
  induction k with
  | zero => simp [ptF]
  | succ k ih => unfold ptF; split; exact bits_u64 _ _ _; exact ih
set_option maxHeartbeats 1000000 in
theorem part_any (p : Int) (n : Nat) (hn : n ≤ 10) (w : World) :
   Calls Tryz.prog 54 #[.int .u64 p, .int .i64 n] w fun e w' => e = .returned (.int .u32 (ptF p n 37 % 4294967296)) ∧ Below w.heap.size w w' := by
  go_enter Tryz.func54, Tryz.ntmps54
  go_wp2
  go_loopw [5, 6] (fun x i wr => ∃ k : Nat, k ≤ 37 ∧ i = .int .i64 (36 - (k : Int)) ∧ x = .int .u64 (ptF p n k) ∧ Below w.heap.size w wr)
    (fun _ i _ => ((intOf i) + 1).toNat)
  case atStart => exact ⟨0, by omega, rfl, rfl, Below.refl _ _⟩
  case round =>
    obtain ⟨k, hk, rfl, rfl, hbl⟩ := hrel
    have hnn := ptF_nn p n k
    generalize hX : ptF p n k = x at hnn
    have HX : Hid (ptF p n k = x) := hX
    clear hX
    by_cases hlt : k < 37
    · generalize hM : bits .or .u64 x (IntKind.u64.wrap (2 ^ (36 - k))) = more
      have HM : Hid (bits .or .u64 x (IntKind.u64.wrap (2 ^ (36 - k))) = more) := hM
      have hmn : 0 ≤ more := by rw [← hM]; exact bits_u64 _ _ _
      have e1 : ptF p n (k + 1) = if lessF more n p then more else x := by rw [ptF, HX.out, HM.out]
      have E1 : Hid (ptF p n (k + 1) = if lessF more n p then more else x) := e1
      clear e1
      have hM' : bits BinOp.or IntKind.u64 x (IntKind.u64.wrap (2 ^ (36 - k))) = more := hM
      clear hM
      cases hle : lessF more n p
      all_goals
        go_wp2_with (go_at_call 96; refine (less_any more p n hn hmn _).mono ?_; rintro e w1 ⟨rfl, hb1⟩; rw [hle])
        go_roundw
        case rel => exact ⟨k + 1, by omega, by go_num, by rw [E1.out, hle]; rfl, hbl.trans (hb1.mono hbl.size)⟩
        case measure => simp [intOf]; omega
    · obtain rfl : k = 37 := by omega
      go_wp2
      go_ret
      exact ⟨by rw [HX.out]; rfl, hbl⟩
end Go.Proofs.YtcjohccaigflgaaGreatDoor

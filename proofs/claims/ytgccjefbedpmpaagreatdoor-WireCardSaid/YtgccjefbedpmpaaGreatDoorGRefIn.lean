import Derived.Test.YtgccjefbedpmpaaGreatDoorGLent
import Derived.Test.YtgccjefbedpmpaaGreatDoorGHold
import Derived.Test.YtgccjefbedpmpaaGreatDoorGApp
import Derived.Deep.QuietTactic
import Derived.BigQuiet
namespace Go.Proofs.YtgccjefbedpmpaaGreatDoor
open Go.RowKit
/-- The cells of what is read. -/
def inc (s : ByteArray) (a : Nat) (b : Bool) : Nat → Value
  | 0 => .string s
  | 1 => .int .i64 a
  | _ => .bool b
/-- The byte at a place, 0 behind the end. -/
def byAt (s : ByteArray) (a : Nat) : Int := if a < s.size then mBy s a else 0
theorem inbyte_any (xb : Nat) (s : ByteArray) (a : Nat) (b : Bool) (hs : s.size ≤ 140737488355328) (ha : a ≤ s.size) (w : World) (h : RowIs w xb 291 3 (inc s a b)) :
    Calls Tryz.prog 206 #[.pointer (some ⟨xb, 0, none⟩)] w fun e w' => e = .returned (.int .i64 (byAt s a)) ∧ RowIs w' xb 291 3 (inc s (if a < s.size then a + 1 else a) (b || decide (s.size ≤ a))) ∧ But (fun g => g = xb) w w' ∧ w'.heap.size = w.heap.size := by
  have c0 : w.cell? ⟨xb, 0, none⟩ = some (.string s) := h.cell (by omega)
  have c1 : w.cell? ⟨xb, 1, none⟩ = some (.int .i64 a) := h.cell (by omega)
  by_cases hlt : a < s.size
  · have l1 : ¬ (s.size : Int) ≤ (a : Int) := by omega
    have hix := idxS s a hlt
    go_enter Tryz.func206, Tryz.ntmps206
    go_wp2
    go_quiet (fail)
    have hq := h.drewM nq
    have hbq := But.below (X := fun g => g = xb) (Below.drewsK (Below.refl w.heap.size w) nq)
    have hsq : (w.drewN nq).heap.size = w.heap.size := rfl
    generalize w.drewN nq = wq at *
    have d1 : wq.cell? ⟨xb, 1, none⟩ = some (.int .i64 a) := hq.cell (by omega)
    have f1 := hq.free 1
    have hr := hq.set 1 (.int .i64 ((a : Int) + 1))
    have hbr := hbq.setCell (p := ⟨xb, 1, none⟩) (Or.inl rfl) (.int .i64 ((a : Int) + 1))
    have hsr : (wq.setCell ⟨xb, 1, none⟩ (.int .i64 ((a : Int) + 1))).heap.size = w.heap.size := by rw [← hsq]; simp [World.setCell]
    have e1 : (wq.setCell ⟨xb, 1, none⟩ (.int .i64 ((a : Int) + 1))).cell? ⟨xb, 1, none⟩ = some (.int .i64 ((a : Int) + 1)) := hr.cell (by omega)
    have e0 : (wq.setCell ⟨xb, 1, none⟩ (.int .i64 ((a : Int) + 1))).cell? ⟨xb, 0, none⟩ = some (.string s) := hr.cell (by omega)
    go_wp2
    generalize wq.setCell ⟨xb, 1, none⟩ (.int .i64 ((a : Int) + 1)) = wz at *
    go_quiet (fail)
    go_wp2
    go_ret
    have hmb : 0 ≤ mBy s a ∧ mBy s a ≤ 255 := by unfold mBy; have := (s.data.toList[a]?.getD 0).toNat_lt; omega
    refine ⟨?_, ?_, hbr.trans (But.below (Below.drewsK (Below.refl wz.heap.size wz) nq)), hsr⟩
    · rw [byAt, if_pos hlt]
      exact congrArg (fun x => Ending.returned (.int .i64 x)) (show wrap64 (mBy s a) = mBy s a by unfold wrap64; omega)
    · refine (hr.drewM nq).congr fun j hj => ?_
      match j, hj with
      | 0, _ => rfl
      | 1, _ => rfl
      | 2, _ => rfl
  · have l1 : (s.size : Int) ≤ (a : Int) := by omega
    go_enter Tryz.func206, Tryz.ntmps206
    go_wp2
    go_quiet (fail)
    have hq := h.drewM nq
    have hbq := But.below (X := fun g => g = xb) (Below.drewsK (Below.refl w.heap.size w) nq)
    have hsq : (w.drewN nq).heap.size = w.heap.size := rfl
    generalize w.drewN nq = wq at *
    have f2 := hq.free 2
    have d2 : wq.cell? ⟨xb, 2, none⟩ = some (.bool b) := hq.cell (by omega)
    go_wp2
    go_ret
    refine ⟨by simp [byAt, hlt], ?_, hbq.setCell (p := ⟨xb, 2, none⟩) (Or.inl rfl) _, by rw [← hsq]; simp [World.setCell]⟩
    refine (hq.set 2 _).congr fun j hj => ?_
    rw [decide_eq_true (by omega), Bool.or_true]
    match j, hj with
    | 0, _ => rfl
    | 1, _ => rfl
    | 2, _ => rfl
end Go.Proofs.YtgccjefbedpmpaaGreatDoor
namespace Go.Proofs.YtgccjefbedpmpaaGreatDoor
open Go.RowKit
def nextAt (s : ByteArray) (a : Nat) : Nat := if a < s.size then a + 1 else a
/-- A varint, as the reference reads it: the number, where it ends, whether something is wrong. -/
def numL (s : ByteArray) : Nat → Nat → Nat → Bool → Int → Int × Nat × Bool
  | 0, _, a, _, _ => (0, a, true)
  | k + 1, i, a, b, n =>
    if byAt s a < 128 then (n + byAt s a % 128 * 128 ^ i, nextAt s a, (b || decide (s.size ≤ a)) || (decide (byAt s a = 0) && decide (0 < i)))
    else numL s k (i + 1) (nextAt s a) (b || decide (s.size ≤ a)) (n + byAt s a % 128 * 128 ^ i)
theorem byAt_r (s : ByteArray) (a : Nat) : 0 ≤ byAt s a ∧ byAt s a ≤ 255 := by
  unfold byAt
  split
  · unfold mBy; have := (s.data.toList[a]?.getD 0).toNat_lt; omega
  · omega
theorem u64r (x : Int) (h : 0 ≤ x ∧ x ≤ 18446744073709551615) : IntKind.u64.wrap x = x := by
  have e : IntKind.u64.wrap x = x % 18446744073709551616 := by
    simp [IntKind.wrap, IntKind.bits, IntKind.signed]
  rw [e]; omega
theorem pow128 (i : Nat) (h : i < 8) : (1 : Int) ≤ 128 ^ i ∧ (128 : Int) ^ i ≤ 562949953421312 := by
  match i, h with
  | 0, _ => decide
  | 1, _ => decide
  | 2, _ => decide
  | 3, _ => decide
  | 4, _ => decide
  | 5, _ => decide
  | 6, _ => decide
  | 7, _ => decide
set_option maxRecDepth 100000 in
set_option maxHeartbeats 1000000 in
theorem innum_any (xb : Nat) (s : ByteArray) (a : Nat) (b : Bool) (hs : s.size ≤ 140737488355328) (ha : a ≤ s.size) (w : World) (h : RowIs w xb 291 3 (inc s a b)) :
    Calls Tryz.prog 208 #[.pointer (some ⟨xb, 0, none⟩)] w fun e w' => e = .returned (.int .u64 (numL s 8 0 a b 0).1) ∧ RowIs w' xb 291 3 (inc s (numL s 8 0 a b 0).2.1 (numL s 8 0 a b 0).2.2) ∧ But (fun g => g = xb) w w' ∧ w'.heap.size = w.heap.size := by
  go_enter Tryz.func208, Tryz.ntmps208
  go_wp2
  generalize hR : numL s 8 0 a b 0 = R
  have HR : Hid (numL s 8 0 a b 0 = R) := hR
  clear hR
  go_loopw [3, 4, 5] (fun nv wv iv wr => ∃ (i a1 : Nat) (b1 : Bool) (n W : Int), i ≤ 8 ∧ iv = .int .i64 i ∧ nv = .int .u64 n ∧ wv = .int .u64 W ∧ W = 128 ^ i ∧ 0 ≤ n ∧ n < W ∧ a1 ≤ s.size ∧ RowIs wr xb 291 3 (inc s a1 b1) ∧ numL s (8 - i) i a1 b1 n = R ∧ But (fun g => g = xb) w wr ∧ wr.heap.size = w.heap.size) (fun _ _ iv _ => 8 - (intOf iv).toNat)
  case atStart => exact ⟨0, a, b, 0, 1, by omega, rfl, rfl, rfl, rfl, by omega, by omega, ha, h, HR.out, But.refl _ _, rfl⟩
  case round =>
    obtain ⟨i, a1, b1, n, W, hi, rfl, rfl, rfl, hW, hn0, hn1, ha1, hr, hnum, hbl, hsz⟩ := hrel
    by_cases hlt : i < 8
    · have li : (i : Int) < 8 := by omega
      obtain ⟨m, hm⟩ : ∃ m, 8 - i = m + 1 := ⟨7 - i, by omega⟩
      rw [hm, numL, ← hW] at hnum
      obtain ⟨y0, y1⟩ := byAt_r s a1
      obtain ⟨hW1, hW2⟩ : 1 ≤ W ∧ W ≤ 562949953421312 := by rw [hW]; exact pow128 i (by omega)
      have HW : Hid (W = 128 ^ i) := hW
      clear hW
      generalize hcc : byAt s a1 = c at *
      have Hcc : Hid (byAt s a1 = c) := hcc
      clear hcc
      have hp0 : 0 ≤ c % 128 * W := Int.mul_nonneg (by omega) (by omega)
      have hp1 : c % 128 * W ≤ 127 * W := Int.mul_le_mul_of_nonneg_right (by omega) (by omega)
      have t1 : IntKind.u64.wrap (c % 128 * W) = c % 128 * W := u64r _ (by omega)
      have t2 : IntKind.u64.wrap (n + c % 128 * W) = n + c % 128 * W := u64r _ (by omega)
      have t3 : IntKind.u64.wrap (W * 128) = W * 128 := u64r _ (by omega)
      have hnx : nextAt s a1 ≤ s.size := by unfold nextAt; split <;> omega
      generalize hB : (b1 || decide (s.size ≤ a1)) = B at *
      have HB : Hid ((b1 || decide (s.size ≤ a1)) = B) := hB
      clear hB
      have hby := inbyte_any xb s a1 b1 hs ha1 wr hr
      rw [Hcc.out, HB.out] at hby
      have Hby : Hid (Calls _ _ _ _ _) := hby
      clear hby
      by_cases hc : c < 128
      · rw [if_pos hc] at hnum
        have HN : Hid (_ = R) := hnum
        clear hnum
        cases B <;> by_cases hz : c = 0 <;> by_cases hi0 : 0 < i
        all_goals (
          have lz : ((0 : Int) < (i : Int)) = (0 < i) := by simp
          go_wp2_with (go_at_call 206; refine Hby.out.mono ?_; rintro e w1 ⟨rfl, hr1, hb1, hs1⟩; have e2 : w1.cell? ⟨xb, 2, none⟩ = some (.bool _) := hr1.cell (show 2 < 3 by omega); have f2 := hr1.free 2)
          go_ret
          rw [HR.out, ← HN.out]
          refine ⟨by simp [hz], (hr1.set 2 _).congr fun j hj => ?_, (hbl.trans hb1).setCell (p := ⟨xb, 2, none⟩) (Or.inl rfl) _, by rw [← hsz, ← hs1]; simp [World.setCell]⟩
          match j, hj with
          | 0, _ => rfl
          | 1, _ => rfl
          | 2, _ => simp [inc, hz, hi0])
      · rw [if_neg hc] at hnum
        have HN : Hid (_ = R) := hnum
        clear hnum
        go_wp2_with (go_at_call 206; refine Hby.out.mono ?_; rintro e w1 ⟨rfl, hr1, hb1, hs1⟩)
        go_roundw
        case rel => exact ⟨i + 1, nextAt s a1, B, n + c % 128 * W, W * 128, hlt, by go_num, rfl, rfl, by rw [HW.out, Int.pow_succ], by omega, by omega, hnx, hr1, by rw [show 8 - (i + 1) = m by omega]; exact HN.out, hbl.trans hb1, hs1.trans hsz⟩
        case measure => simp [intOf]; omega
    · obtain rfl : i = 8 := by omega
      have f2 := hr.free 2
      have e2 : wr.cell? ⟨xb, 2, none⟩ = some (.bool b1) := hr.cell (show 2 < 3 by omega)
      go_wp2
      go_ret
      have hR : R = (0, a1, true) := by rw [← hnum]; rfl
      rw [HR.out, hR]
      refine ⟨rfl, (hr.set 2 _).congr fun j hj => ?_, hbl.setCell (p := ⟨xb, 2, none⟩) (Or.inl rfl) _, by rw [← hsz]; simp [World.setCell]⟩
      match j, hj with
      | 0, _ => rfl
      | 1, _ => rfl
      | 2, _ => rfl
end Go.Proofs.YtgccjefbedpmpaaGreatDoor
namespace Go.Proofs.YtgccjefbedpmpaaGreatDoor
open Go.RowKit
theorem numL_r (s : ByteArray) : ∀ (k i a : Nat) (b : Bool) (n : Int), 0 ≤ n → n < 128 ^ i → i + k ≤ 8 → a ≤ s.size → 0 ≤ (numL s k i a b n).1 ∧ (numL s k i a b n).1 < 72057594037927936 ∧ (numL s k i a b n).2.1 ≤ s.size := by
  intro k
  induction k with
  | zero => intro i a b n _ _ _ ha; exact ⟨Int.le_refl 0, by show (0 : Int) < _; decide, ha⟩
  | succ k ih =>
    intro i a b n h0 h1 h2 ha
    obtain ⟨y0, y1⟩ := byAt_r s a
    obtain ⟨p1, p2⟩ := pow128 i (by omega)
    have hx : nextAt s a ≤ s.size := by unfold nextAt; split <;> omega
    have q0 : 0 ≤ byAt s a % 128 * 128 ^ i := Int.mul_nonneg (by omega) (by omega)
    have q1 : byAt s a % 128 * 128 ^ i ≤ 127 * 128 ^ i := Int.mul_le_mul_of_nonneg_right (by omega) (by omega)
    unfold numL
    split
    · exact ⟨by show 0 ≤ n + _; omega, by show n + _ < _; omega, hx⟩
    · exact ih (i + 1) _ _ _ (by omega) (by rw [Int.pow_succ]; omega) (by omega) hx
/-- A varint that is no more than 2^31. -/
def fewL (s : ByteArray) (a : Nat) (b : Bool) : Int × Nat × Bool :=
  ((numL s 8 0 a b 0).1 % 4294967296, (numL s 8 0 a b 0).2.1, (numL s 8 0 a b 0).2.2 || decide (2147483648 < (numL s 8 0 a b 0).1))
set_option maxRecDepth 100000 in
theorem infew_any (xb : Nat) (s : ByteArray) (a : Nat) (b : Bool) (hs : s.size ≤ 140737488355328) (ha : a ≤ s.size) (w : World) (h : RowIs w xb 291 3 (inc s a b)) :
    Calls Tryz.prog 207 #[.pointer (some ⟨xb, 0, none⟩)] w fun e w' => e = .returned (.int .u32 (fewL s a b).1) ∧ RowIs w' xb 291 3 (inc s (fewL s a b).2.1 (fewL s a b).2.2) ∧ But (fun g => g = xb) w w' ∧ w'.heap.size = w.heap.size := by
  obtain ⟨q0, q1, q2⟩ := numL_r s 8 0 a b 0 (by omega) (by decide) (by omega) ha
  have hnum := innum_any xb s a b hs ha w h
  unfold fewL
  generalize numL s 8 0 a b 0 = R at *
  obtain ⟨n, a1, B⟩ := R
  have Hn : Hid (Calls _ _ _ _ _) := hnum
  clear hnum
  rcases Int.lt_or_le 2147483648 n with hc | hc <;> cases B
  all_goals (
    dsimp only at q0 q1 q2
    go_enter Tryz.func207, Tryz.ntmps207
    go_wp2_with (go_at_call 208; refine Hn.out.mono ?_; rintro e w1 ⟨rfl, hr1, hb1, hs1⟩; have e2 : w1.cell? ⟨xb, 2, none⟩ = some (.bool _) := hr1.cell (show 2 < 3 by omega); have f2 := hr1.free 2)
    go_ret
    refine ⟨rfl, (hr1.set 2 _).congr fun j hj => ?_, hb1.setCell (p := ⟨xb, 2, none⟩) (Or.inl rfl) _, by rw [← hs1]; simp [World.setCell]⟩
    match j, hj with
    | 0, _ => rfl
    | 1, _ => rfl
    | 2, _ => first | rfl | simp [inc, hc] | (simp [inc]; omega))
/-- The bounds of what few reads. -/
theorem fewL_r (s : ByteArray) (a : Nat) (b : Bool) (ha : a ≤ s.size) : 0 ≤ (fewL s a b).1 ∧ (fewL s a b).1 < 4294967296 ∧ (fewL s a b).2.1 ≤ s.size := by
  obtain ⟨q0, q1, q2⟩ := numL_r s 8 0 a b 0 (by omega) (by decide) (by omega) ha
  unfold fewL
  exact ⟨by dsimp only; omega, by dsimp only; omega, q2⟩
end Go.Proofs.YtgccjefbedpmpaaGreatDoor

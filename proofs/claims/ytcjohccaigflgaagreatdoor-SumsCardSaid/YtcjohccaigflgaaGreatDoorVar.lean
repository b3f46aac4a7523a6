import Derived.Test.YtcjohccaigflgaaGreatDoorRSum
namespace Go.Proofs.YtcjohccaigflgaaGreatDoor
open Go.RowKit
/-- A varint's bytes. -/
def vbF : Nat → Nat → ByteArray
  | 0, n => strOfNums [(n : Int)]
  | k + 1, n => if n < 128 then strOfNums [(n : Int)] else strOfNums [128 + (n : Int) % 128] ++ vbF k (n / 128)
theorem vbF_same : ∀ k m n, n ≤ k → n ≤ m → vbF k n = vbF m n := by
  intro k
  induction k with
  | zero => intro m n h1 h2; obtain rfl : n = 0 := by omega
            cases m with
            | zero => rfl
            | succ m => rw [vbF, vbF, if_pos (by omega)]
  | succ k ih =>
    intro m n h1 h2
    cases m with
    | zero => obtain rfl : n = 0 := by omega
              rw [vbF, vbF, if_pos (by omega)]
    | succ m =>
      rw [vbF, vbF]
      split
      · rfl
      · rw [ih m (n / 128) (by omega) (by omega)]
def vb (n : Nat) : ByteArray := vbF n n
theorem vb_lt {n : Nat} (h : n < 128) : vb n = strOfNums [(n : Int)] := by
  unfold vb
  cases n with
  | zero => rfl
  | succ n => rw [vbF, if_pos h]
theorem vb_ge {n : Nat} (h : ¬ n < 128) : vb n = strOfNums [128 + (n : Int) % 128] ++ vb (n / 128) := by
  unfold vb
  cases n with
  | zero => omega
  | succ n => rw [vbF, if_neg h, vbF_same n ((n + 1) / 128) ((n + 1) / 128) (by omega) (Nat.le_refl _)]
theorem vb_size (k : Nat) : ∀ n, n < 128 ^ (k + 1) → 1 ≤ (vb n).size ∧ (vb n).size ≤ k + 1 := by
  induction k with
  | zero => intro n h; rw [vb_lt (by omega), strOfNums_size]; simp
  | succ k ih =>
    intro n h
    by_cases hn : n < 128
    · rw [vb_lt hn, strOfNums_size]; simp
    · rw [vb_ge hn, ByteArray.size_append, strOfNums_size]
      have := ih (n / 128) (by rw [Nat.pow_succ] at h; omega)
      simp; omega
set_option maxHeartbeats 1000000 in
theorem varint_any (n : Nat) (hn : n < 18446744073709551616) (w : World) :
    Calls Tryz.prog 56 #[.int .u64 n] w fun e w' => e = .returned (.string (vb n)) ∧ Below w.heap.size w w' := by
  have hsz := (vb_size 9 n (by omega)).2
  have hadd := @run_string_add_sum Tryz.prog
  have hcv := conv_one
  go_enter Tryz.func56, Tryz.ntmps56
  go_wp2
  go_loopw [0, 3] (fun nv sv wr => ∃ (m : Nat) (s : ByteArray), nv = .int .u64 m ∧ sv = .string s ∧ m ≤ n ∧ s ++ vb m = vb n ∧ Below w.heap.size w wr) (fun nv _ _ => (intOf nv).toNat)
  case atStart => exact ⟨n, _, rfl, rfl, Nat.le_refl _, ByteArray.empty_append, Below.refl _ _⟩
  case round =>
    obtain ⟨m, s, rfl, rfl, hm, hs, hbl⟩ := hrel
    have hss : s.size ≤ 10 := by rw [← hs, ByteArray.size_append] at hsz; omega
    by_cases hlt : m < 128
    · have h1s := strOfNums_size [(m : Int)]
      have lm : ¬ (128 : Int) ≤ (m : Int) := by omega
      have HE : Hid (vb n = s ++ strOfNums [(m : Int)]) := by rw [← hs, vb_lt hlt]; exact rfl
      clear hs
      go_wp2
      go_ret
      exact ⟨by rw [HE.out]; rfl, hbl.alloc hbl.size _⟩
    · have h1s := strOfNums_size [128 + (m : Int) % 128]
      have lm : (128 : Int) ≤ (m : Int) := by omega
      have HE : Hid ((s ++ strOfNums [128 + (m : Int) % 128]) ++ vb (m / 128) = vb n) := by
        have e := hs
        rw [vb_ge hlt, ← ByteArray.append_assoc] at e
        exact e
      clear hs
      go_wp2
      go_roundw
      case rel => exact ⟨m / 128, _, by go_num, rfl, by omega, HE.out, hbl.alloc hbl.size _⟩
      case measure => simp [intOf]; omega
end Go.Proofs.YtcjohccaigflgaaGreatDoor

import Derived.Test.YtcjohccaigflgaaGreatDoorPart
namespace Go.Proofs.YtcjohccaigflgaaGreatDoor
open Go.RowKit
def u64s (l : List Int) : List Value := l.map (Value.int .u64)
@[simp] theorem u64s_length (l : List Int) : (u64s l).length = l.length := by simp [u64s]
theorem u64s_one (l : List Int) : ∀ u ∈ u64s l, u.oneCell' = true := by intro u hu; simp [u64s] at hu; obtain ⟨a, _, rfl⟩ := hu; rfl
/-- No number of the list divides x. -/
def noDiv (x : Int) (l : List Int) : Bool := l.all fun y => x % y != 0
/-- The primes up to k + 1. -/
def pl : Nat → List Int
  | 0 => []
  | k + 1 => if noDiv (2 + k) (pl k) then pl k ++ [2 + (k : Int)] else pl k
theorem pl_mono (k j : Nat) : (pl k).length ≤ (pl (k + j)).length := by
  induction j with
  | zero => exact Nat.le_refl _
  | succ j ih =>
    rw [← Nat.add_assoc, pl]
    split
    · rw [List.length_append]; omega
    · exact ih
theorem pl_ge (k : Nat) : ∀ y ∈ pl k, 2 ≤ y := by
  induction k with
  | zero => simp [pl]
  | succ k ih => rw [pl]; split
                 · intro y hy; simp at hy; rcases hy with hy | rfl; exact ih y hy; omega
                 · exact ih
theorem pl_310 : (pl 310).length = 64 := by decide +kernel
theorem pl_309 : (pl 309).length = 63 := by decide +kernel
theorem pl_le (k : Nat) (h : k ≤ 310) : (pl k).length ≤ 64 := by
  have := pl_mono k (310 - k); rw [show k + (310 - k) = 310 by omega, pl_310] at this; exact this
theorem pl_lt (k : Nat) (h : k < 310) : (pl k).length < 64 := by
  have := pl_mono k (309 - k); rw [show k + (309 - k) = 309 by omega, pl_309] at this; omega
theorem noDiv_take (x : Int) (l : List Int) (i : Nat) (h : i < l.length) : noDiv x (l.take (i + 1)) = (noDiv x (l.take i) && (x % l[i] != 0)) := by
  unfold noDiv; rw [List.take_succ_eq_append_getElem h, List.all_append]; simp only [List.all_cons, List.all_nil, Bool.and_true]
theorem own_view {w : World} {base e : Nat} {v : Value} {n : Nat} {xs : List Value} (h : w.ownsRow base e 1 v n xs) :
    ∃ ao cap, v = .slice ao n cap ∧ ∀ i, i < n → ∃ g, ao = some ⟨g, 0, none⟩ ∧ w.cell? ⟨g, i, none⟩ = xs[i]? := by
  rcases h.2 with ⟨rfl, rfl⟩ | ⟨g, cap, cur, rfl, hb, hh, hn, hm, hc, ht⟩
  · exact ⟨none, 0, rfl, fun i hi => absurd hi (by omega)⟩
  · exact ⟨_, cap, rfl, fun i hi => ⟨g, rfl, h.cellAt i (by omega)⟩⟩
set_option maxRecDepth 100000 in
set_option maxHeartbeats 1000000 in
theorem primes_any (w : World) :
   Calls Tryz.prog 53 #[.int .i64 64] w fun e w' => ∃ v, e = .returned v ∧ w'.ownsRow w.heap.size 41 1 v 64 (u64s (pl 310)) ∧ Below w.heap.size w w' := by
  obtain ⟨i0, hi, hz0, hz1, hz2⟩ := info_parts info32
  go_enter Tryz.func53, Tryz.ntmps53
  go_wp2
  go_loopw [3, 4] (fun v x wr => ∃ k : Nat, k ≤ 310 ∧ x = .int .u64 (2 + (k : Int)) ∧ wr.ownsRow w.heap.size 41 1 v (pl k).length (u64s (pl k)) ∧ Below w.heap.size w wr)
    (fun _ x _ => (312 - intOf x).toNat)
  case atStart => exact ⟨0, by omega, rfl, World.ownsRow_nil _ _ _ _, Below.refl _ _⟩
  case round =>
    obtain ⟨k, hk, rfl, hown, hbl⟩ := hrel
    obtain ⟨ao, cap, rfl, hcl⟩ := own_view hown
    have hge := pl_ge k
    generalize hL : pl k = L at hown hcl hge
    have HL : Hid (pl k = L) := hL
    have hL64 : L.length ≤ 64 := by rw [← hL]; exact pl_le k hk
    have Hcl : Hid (∀ i, i < L.length → ∃ g, ao = some ⟨g, 0, none⟩ ∧ wr.cell? ⟨g, i, none⟩ = (u64s L)[i]?) := hcl
    have Hge : Hid (∀ y ∈ L, 2 ≤ y) := hge
    clear hcl hge
    by_cases hlt : L.length < 64
    · have hk2 : k < 310 := by
        rcases Nat.lt_or_ge k 310 with h | h
        · exact h
        · have : k = 310 := by omega
          subst this; rw [← hL, pl_310] at hlt; omega
      clear hL
      go_wp2
      go_loop [5, 6] (fun b i => ∃ j : Nat, j ≤ L.length ∧ i = .int .i64 j ∧ b = .bool (noDiv (2 + (k : Int)) (L.take j))) (fun _ i => L.length - (intOf i).toNat)
      case atStart => exact ⟨0, Nat.zero_le _, rfl, by simp [noDiv]⟩
      case round =>
        obtain ⟨j, hj, rfl, rfl⟩ := hrel
        by_cases hjl : j < L.length
        · obtain ⟨g, rfl, hc⟩ := Hcl.out j hjl
          have hc' : wr.cell? ⟨g, j, none⟩ = some (.int .u64 L[j]) := by rw [hc]; simp [u64s, hjl]
          have hL2 : 2 ≤ L[j] := Hge.out _ (List.getElem_mem hjl)
          have nt := noDiv_take (2 + (k : Int)) L j hjl
          have NT : Hid (noDiv (2 + (k : Int)) (L.take (j + 1)) = (noDiv (2 + (k : Int)) (L.take j) && ((2 + (k : Int)) % L[j] != 0))) := nt
          clear nt hc
          generalize hY : L[j] = y at hc' hL2
          have HY : Hid (L[j] = y) := hY
          clear hY
          cases hB : noDiv (2 + (k : Int)) (L.take j)
          all_goals
            go_wp2
            go_round
            case rel => exact ⟨j + 1, by omega, by go_num, by rw [NT.out, HY.out, hB]; simp⟩
            case measure => simp [intOf]; omega
        · obtain rfl : j = L.length := by omega
          have hB : noDiv (2 + (k : Int)) (L.take L.length) = noDiv (2 + (k : Int)) L := by rw [List.take_length]
          cases hC : noDiv (2 + (k : Int)) L
          · rw [hB, hC]
            go_wp2
            go_roundw
            case rel => exact ⟨k + 1, by omega, by go_num, by rw [pl, HL.out, hC]; exact hown, hbl⟩
            case measure => simp [intOf]; omega
          · rw [hB, hC]
            go_wp2_with (at_builtin; refine wpList_append_own _ rfl (.tmp 30) (.tmp 32) 123 rfl w.heap.size 41 i0 (.int .u64 0) 1 8 Tryz.underlying123 hi hz0 hz1 hz2 rfl (by decide) _ _ _ rfl (hown.alloc _) ⟨wr.heap.size, 0, none⟩ 1 1 (u64s [2 + (k : Int)]) rfl rfl (cell_one_new _ _ _) (u64s_one _) (by unfold maxLen; omega) (by omega) (by have := hbl.size; simp; omega) ?_; intro v' w1 hown1 hgr1 _)
            go_roundw
            case rel =>
              refine ⟨k + 1, by omega, by go_num, ?_, (hbl.alloc hbl.size _).grown hgr1 (by simp; have := hbl.size; omega) ?_⟩
              · rw [pl, HL.out, hC]; simpa [u64s] using hown1
              · intro k hk; exact (hown.lt k hk).1
            case measure => simp [intOf]; omega
    · have hk3 : k = 310 := by
        rcases Nat.lt_or_ge k 310 with h | h
        · have := pl_lt k h; rw [hL] at this; omega
        · omega
      have hl64 : L.length = 64 := by omega
      have HR : Hid (wr.ownsRow w.heap.size 41 1 (.slice ao L.length cap) 64 (u64s (pl 310))) := by rw [← hk3, hL, ← hl64]; exact hown
      have hge64 : 64 ≤ L.length := by omega
      clear hL hk3 hl64
      go_wp2
      go_ret
      exact ⟨_, rfl, HR.out, hbl⟩
end Go.Proofs.YtcjohccaigflgaaGreatDoor

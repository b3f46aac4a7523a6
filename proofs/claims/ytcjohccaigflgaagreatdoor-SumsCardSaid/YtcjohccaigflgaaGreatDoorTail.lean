import Derived.Test.YtcjohccaigflgaaGreatDoorMixAll
namespace Go.Proofs.YtcjohccaigflgaaGreatDoor
open Go.RowKit
def u8s (l : List Int) : List Value := l.map (Value.int .u8)
@[simp] theorem u8s_length (l : List Int) : (u8s l).length = l.length := by simp [u8s]
theorem u8s_append (a b : List Int) : u8s (a ++ b) = u8s a ++ u8s b := by simp [u8s]
theorem u8s_one (l : List Int) : ∀ u ∈ u8s l, u.oneCell' = true := by intro u hu; simp [u8s] at hu; obtain ⟨a, _, rfl⟩ := hu; rfl
/-- How many noughts are laid behind n bytes and the one bit. -/
def zer (n : Nat) : Nat := (119 - n % 64) % 64
def be8 (n : Int) (k : Nat) : List Int := (List.range k).map fun j => n / 2 ^ (56 - 8 * j) % 256
theorem be8_succ (n : Int) (k : Nat) : be8 n (k + 1) = be8 n k ++ [n / 2 ^ (56 - 8 * k) % 256] := by simp [be8, List.range_succ]
@[simp] theorem be8_length (n : Int) (k : Nat) : (be8 n k).length = k := by simp [be8]
theorem info5 : (Tryz.prog.info? 5).map (fun i => (i.zero, i.size, i.bytes)) = some (some (.int .u8 0), 1, 1) := by kernel_rfl
def pre (l : List Int) (z : Nat) : List Int := l ++ [128] ++ List.replicate z 0
@[simp] theorem pre_length (l : List Int) (z : Nat) : (pre l z).length = l.length + 1 + z := by simp [pre]; omega
theorem pre_succ (l : List Int) (z : Nat) : pre l (z + 1) = pre l z ++ [0] := by simp [pre, List.replicate_succ']
theorem zer_facts (L : Nat) : 56 ≤ (L + 1 + zer L) % 64 ∧ (L + 1 + zer L) % 64 ≤ 56 ∧ zer L < 64 := by unfold zer; omega
def lenOf : Value → Nat
  | .slice _ n _ => n
  | _ => 0
set_option maxRecDepth 100000 in
set_option maxHeartbeats 1000000 in
theorem tail_any (b off cap : Nat) (l : List Int) (N : Nat) (w : World) (hl : l.length < 64) (hN : N ≤ 140737488355328)
    (hcell : ∀ j u, (u8s l)[j]? = some u → w.cell? ((⟨b, off, none⟩ : Addr).add j) = some u) :
   Calls Tryz.prog 164 #[.slice (some ⟨b, off, none⟩) l.length cap, .int .i64 N] w fun e w' => e = .returned (.slice (some ⟨w.heap.size, 0, none⟩) (l.length + 1 + zer l.length + 8) 128) ∧
     w'.ownsRow w.heap.size 5 1 (.slice (some ⟨w.heap.size, 0, none⟩) (l.length + 1 + zer l.length + 8) 128) (l.length + 1 + zer l.length + 8) (u8s (pre l (zer l.length) ++ be8 (N * 8) 8)) ∧ Below w.heap.size w w' := by
  obtain ⟨i0, hi, hz0, hz1, hz2⟩ := info_parts info5
  have Hc : Hid (∀ j u, (u8s l)[j]? = some u → w.cell? ((⟨b, off, none⟩ : Addr).add j) = some u) := hcell
  have hz2' : i0.bytes * 128 ≤ 281474976710656 := by rw [hz2]; omega
  clear hcell
  generalize hL : l.length = L at *
  have HL : Hid (l.length = L) := hL
  clear hL
  obtain ⟨hZ1, hZ2, hZ3⟩ := zer_facts L
  generalize zer L = Z at *
  go_enter Tryz.func164, Tryz.ntmps164
  have hcl : ∀ w1, Below w.heap.size w w1 → ∀ j u, (u8s l)[j]? = some u → w1.cell? ((⟨b, off, none⟩ : Addr).add j) = some u := fun w1 hb1 j u h => cell_later hb1 (Hc.out j u h)
  have Hcl : Hid (∀ w1, Below w.heap.size w w1 → ∀ j u, (u8s l)[j]? = some u → w1.cell? ((⟨b, off, none⟩ : Addr).add j) = some u) := hcl
  clear hcl
  go_wp2_with (first
    | (at_make; refine wpList_make_own _ rfl _ _ 59 rfl w.heap.size 5 i0 (.int .u8 0) 1 Tryz.underlying59 hi hz0 hz1 .i64 .i64 128 128 rfl rfl rfl hz2' (by unfold maxLen; omega) (Nat.le_refl _) ?_; intro w1 hown1 hgr1; have hb1 := (Below.refl w.heap.size w).grown hgr1 (Nat.le_refl _) (by simp))
    | (at_builtin; refine wpList_append_fits _ rfl (.tmp 9) (.tmp 10) 59 rfl w.heap.size 5 i0 1 Tryz.underlying59 hi hz1 w.heap.size 0 128 [] rfl hown1 ⟨b, off, none⟩ L cap (u8s l) rfl (by simp [HL.out]) (Hcl.out _ hb1) (u8s_one l) (by omega) ?_; intro w2 hown2 hgr2; simp only [Nat.zero_add, List.nil_append] at hown2; have hb2 := hb1.grown hgr2 hb1.size (by simp))
    | (at_builtin; refine wpList_append_fits _ rfl (.tmp 12) (.tmp 13) 59 rfl w.heap.size 5 i0 1 Tryz.underlying59 hi hz1 w.heap.size L 128 (u8s l) rfl (hown2.alloc _) ⟨w2.heap.size, 0, none⟩ 1 1 (u8s [128]) rfl rfl (cell_one_new _ _ _) (u8s_one _) (by omega) ?_; intro w3 hown3 hgr3; have hb3 := (hb2.alloc hb2.size _).grown hgr3 (Nat.le_trans hb2.size (by simp)) (by simp)))
  have hown3' : w3.ownsRow w.heap.size 5 1 (.slice (some ⟨w.heap.size, 0, none⟩) (L + 1) 128) (L + 1) (u8s (pre l 0)) := by simpa [pre, u8s_append] using hown3
  clear hown3 hgr3 hown2 hgr2 hown1 hgr1
  go_loopw [5] (fun t wr => ∃ z : Nat, z ≤ Z ∧ t = .slice (some ⟨w.heap.size, 0, none⟩) (L + 1 + z) 128 ∧ wr.ownsRow w.heap.size 5 1 (.slice (some ⟨w.heap.size, 0, none⟩) (L + 1 + z) 128) (L + 1 + z) (u8s (pre l z)) ∧ Below w.heap.size w wr)
    (fun t _ => 128 - lenOf t)
  case atStart => exact ⟨0, Nat.zero_le _, rfl, hown3', hb3⟩
  case round =>
    clear hown3' hb1 hb2 hb3
    obtain ⟨z, hz, rfl, hown, hbl⟩ := hrel
    by_cases hlt : z < Z
    · go_wp2_with (at_builtin; refine wpList_append_fits _ rfl (.tmp 19) (.tmp 20) 59 rfl w.heap.size 5 i0 1 Tryz.underlying59 hi hz1 w.heap.size (L + 1 + z) 128 (u8s (pre l z)) rfl (hown.alloc _) ⟨wr.heap.size, 0, none⟩ 1 1 (u8s [0]) rfl rfl (cell_one_new _ _ _) (u8s_one _) (by omega) ?_; intro w4 hown4 hgr4; have hb4 := (hbl.alloc hbl.size _).grown hgr4 (Nat.le_trans hbl.size (by simp)) (by simp))
      go_roundw
      case rel => exact ⟨z + 1, hlt, rfl, by rw [pre_succ, u8s_append]; exact hown4, hb4⟩
      case measure => simp [lenOf]; omega
    · obtain rfl : z = Z := by omega
      have hb18 : (((L : Int) + 1 + (z : Int)) % 64 != 56) = false := by simp; omega
      go_wp2
      go_loopw [5, 7] (fun t sh wr => ∃ k : Nat, k ≤ 8 ∧ sh = .int .i64 (56 - 8 * (k : Int)) ∧ t = .slice (some ⟨w.heap.size, 0, none⟩) (L + 1 + z + k) 128 ∧ wr.ownsRow w.heap.size 5 1 (.slice (some ⟨w.heap.size, 0, none⟩) (L + 1 + z + k) 128) (L + 1 + z + k) (u8s (pre l z ++ be8 (N * 8) k)) ∧ Below w.heap.size w wr)
        (fun t _ _ => 140 - lenOf t)
      case atStart => exact ⟨0, Nat.zero_le _, rfl, rfl, by simpa [be8] using hown, hbl⟩
      case round =>
        clear hown hbl
        obtain ⟨k, hk, rfl, rfl, hown, hbl⟩ := hrel
        by_cases hlt : k < 8
        · go_wp2_with (at_builtin; refine wpList_append_fits _ rfl (.tmp 29) (.tmp 34) 59 rfl w.heap.size 5 i0 1 Tryz.underlying59 hi hz1 w.heap.size (L + 1 + z + k) 128 (u8s (pre l z ++ be8 (N * 8) k)) rfl (hown.alloc _) ⟨wr.heap.size, 0, none⟩ 1 1 (u8s [N * 8 / 2 ^ (56 - 8 * k) % 256]) rfl rfl (cell_one_new _ _ _) (u8s_one _) (by omega) ?_; intro w4 hown4 hgr4; have hb4 := (hbl.alloc hbl.size _).grown hgr4 (Nat.le_trans hbl.size (by simp)) (by simp))
          go_roundw
          case rel => exact ⟨k + 1, hlt, by go_num, rfl, by rw [be8_succ, ← List.append_assoc, u8s_append]; exact hown4, hb4⟩
          case measure => simp [lenOf]; omega
        · obtain rfl : k = 8 := by omega
          go_wp2
          go_ret
          exact ⟨rfl, hown, hbl⟩
end Go.Proofs.YtcjohccaigflgaaGreatDoor

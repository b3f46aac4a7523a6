import Derived.Test.YtcjohccaigflgaaGreatDoorLeft
import Derived.Test.YtcjohccaigflgaaGreatDoorLent
namespace Go.Proofs.YtcjohccaigflgaaGreatDoor
open Go.RowKit
theorem own_of_row {w : World} {g n e : Nat} {f : Nat → Value} (h : RowIs w g e n f) (hn : n ≤ maxLen) : w.ownsRow 0 e 1 (.slice (some ⟨g, 0, none⟩) n n) n (rowOf n f).toList :=
  ⟨by rw [Array.length_toList, rowOf_size, Nat.mul_one], .inr ⟨g, n, rowOf n f, rfl, Nat.zero_le _, h, Nat.le_refl _, hn, by rw [rowOf_size, Nat.mul_one], by
    rw [Nat.mul_one]; exact List.take_of_length_le (by rw [Array.length_toList, rowOf_size]; exact Nat.le_refl _)⟩⟩
section
variable {w wa wk : World} {wd : Nat} {vP vH : Value} {F : Nat → Prop} {hs : List Nat} {g n : Nat} {f : Nat → Value}
/-- A new hold of bytes that lie in a block of their own. -/
theorem lent_raw (hL : RowIs wa g 5 n f) (hn : n ≤ maxLen) (hk : wk = wa.alloc (.cells #[.slice (some ⟨g, 0, none⟩) n n, .slice none 0 0, .slice none 0 0, .int .i64 0] 144)) :
    HoldRaw wk wa.heap.size 0 (.slice (some ⟨g, 0, none⟩) n n) (.slice none 0 0) (.slice none 0 0) n 0 0 (rowOf n f).toList [] [] := by
  subst hk
  exact ⟨(RowIs.new wa 144 4 (hold4 (.slice (some ⟨g, 0, none⟩) n n) (.slice none 0 0) (.slice none 0 0) 0)), own_of_row (hL.below ((Below.refl _ _).alloc (Nat.le_refl _) _) hL.lt) hn, World.ownsRow_nil _ _ _ _, World.ownsRow_nil _ _ _ _⟩
theorem lent_pre (h : WOk w wd RV vP vH F hs) (hB : Below w.heap.size w wa) (hL : RowIs wa g 5 n f) (hg : w.heap.size ≤ g) (o : Obj) (hk : wk = wa.alloc o) :
    Pre wk wd RV vP vH F hs wa.heap.size (.slice (some ⟨g, 0, none⟩) n n) (.slice none 0 0) (.slice none 0 0) ∧ (∀ b, b = wa.heap.size ∨ ownX (.slice (some ⟨g, 0, none⟩) n n) (.slice none 0 0) (.slice none 0 0) b → w.heap.size ≤ b) ∧ Below w.heap.size w wk := by
  subst hk
  have hs1 := hB.size
  have hB2 : Below w.heap.size w (wa.alloc o) := hB.alloc hs1 o
  have hlt := hL.lt
  have key : ∀ b, b = wa.heap.size ∨ ownX (.slice (some ⟨g, 0, none⟩) n n) (.slice none 0 0) (.slice none 0 0) b → w.heap.size ≤ b ∧ b < (wa.alloc o).heap.size := fun b e => by
    have hz : (wa.alloc o).heap.size = wa.heap.size + 1 := by simp
    rcases e with e | e | e | e
    · omega
    · cases e; show w.heap.size ≤ g ∧ g < _; omega
    · cases e
    · cases e
  refine ⟨⟨h.grown hB2, fun b e => ?_⟩, fun b e => (key b e).1, hB2⟩
  obtain ⟨k1, k2⟩ := key b e
  exact ⟨k2, fun e1 => by have := h.below b e1; omega, fun e1 => by have := h.row.lt; omega, fun e1 => by have := (h.own.lt b e1).2; omega⟩
end
end Go.Proofs.YtcjohccaigflgaaGreatDoor

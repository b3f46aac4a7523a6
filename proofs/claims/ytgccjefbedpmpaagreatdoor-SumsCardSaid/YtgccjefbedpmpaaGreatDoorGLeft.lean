import Derived.Test.YtgccjefbedpmpaaGreatDoorGApp
import Derived.Test.YtgccjefbedpmpaaGreatDoorGRSum
import Derived.Test.YtgccjefbedpmpaaGreatDoorGLent
namespace Go.Proofs.YtgccjefbedpmpaaGreatDoor
open Go.RowKit
theorem WOk.grown {w w' : World} {wd : Nat} {R : Nat → Int} {vP vH : Value} {F : Nat → Prop} {hs : List Nat} (h : WOk w wd R vP vH F hs) (hb : Below w.heap.size w w') : WOk w' wd R vP vH F hs :=
  ⟨h.row.below hb h.row.lt, own_below h.own hb, fun x hx => by
      obtain ⟨m, a, b, c, k⟩ := h.holds x hx
      exact ⟨m, a, b, c, k.frame fun y hy => hb.block y (h.below y hy)⟩, h.apart, fun b hy => Nat.lt_of_lt_of_le (h.below b hy) hb.size⟩
/-- What a step of a script leaves: the holds, and four more; nothing that lay there before is written into, but the world and its list of holds. -/
def Left (w w' : World) (wd : Nat) (vP vH : Value) (hs : List Nat) : Prop := ∃ vH' F' hs', WOk w' wd RV vP vH' F' hs' ∧ hs'.length = hs.length + 4 ∧ (∀ b, vH'.ownBlock = some b → vH.ownBlock = some b ∨ w.heap.size ≤ b) ∧ But (fun b => b = wd ∨ vH.ownBlock = some b) w w'
section
variable {w w1 w' : World} {wd : Nat} {vP vH : Value} {hs : List Nat}
theorem Left.of_below (hb : Below w.heap.size w w1) (h : Left w1 w' wd vP vH hs) : Left w w' wd vP vH hs := by
  obtain ⟨vH', F', hs', h1, h2, h3, h4⟩ := h
  exact ⟨vH', F', hs', h1, h2, fun b e => (h3 b e).elim Or.inl fun e => Or.inr (Nat.le_trans hb.size e), (But.below hb).trans h4⟩
theorem Left.then_below (h : Left w w1 wd vP vH hs) (hb : Below w1.heap.size w1 w') : Left w w' wd vP vH hs := by
  obtain ⟨vH', F', hs', h1, h2, h3, h4⟩ := h
  exact ⟨vH', F', hs', h1.grown hb, h2, h3, h4.trans (But.below hb)⟩
theorem Left.of_keep {F : Nat → Prop} {hb : Nat} {vb vo vl : Value} {mk : Int} {n1 n2 n3 : Nat} {vH' : Value} {hs' : List Nat} {g : Nat} {V1 V2 V3 : Value} {ls : List Value} (hB : Below w.heap.size w w1) (p : Pre w1 wd RV vP vH F hs hb vb vo vl)
    (k : Kst w1 w' wd RV vP vH F hs hb vb vo vl mk 4 n1 n2 n3 vH' hs' g V1 V2 V3 ls) (hp : 0 ≤ mk ∧ mk ≤ 9223372036854775807) (hx : ∀ b, b = hb ∨ ownX vb vo vl b → w.heap.size ≤ b) : Left w w' wd vP vH hs := by
  refine ⟨vH', _, hs', k.ok p hp, k.len, fun b e => (k.lieH b e).elim Or.inl fun e => Or.inr (Nat.le_trans hB.size e), ?_⟩
  have hs1 := hB.size
  have hs2 := k.but.size
  refine ⟨by omega, k.but.os.trans hB.os, k.but.tape.trans hB.tape, k.but.output.trans hB.output, fun b h1 h2 => (k.but.block b (by omega) fun e => ?_).trans (hB.block b h1)⟩
  rcases e with e | e | e | e
  · exact h2 (Or.inl e)
  · have := hx b (Or.inl e); omega
  · have := hx b (Or.inr e); omega
  · exact h2 (Or.inr e)
end
end Go.Proofs.YtgccjefbedpmpaaGreatDoor
namespace Go.Proofs.YtgccjefbedpmpaaGreatDoor
open Go.RowKit
theorem own_of_row {w : World} {g n e : Nat} {f : Nat → Value} (h : RowIs w g e n f) (hn : n ≤ maxLen) : w.ownsRow 0 e 1 (.slice (some ⟨g, 0, none⟩) n n) n (rowOf n f).toList :=
  ⟨by rw [Array.length_toList, rowOf_size, Nat.mul_one], .inr ⟨g, n, rowOf n f, rfl, Nat.zero_le _, h, Nat.le_refl _, hn, by rw [rowOf_size, Nat.mul_one], by
    rw [Nat.mul_one]; exact List.take_of_length_le (by rw [Array.length_toList, rowOf_size]; exact Nat.le_refl _)⟩⟩
section
variable {w wa wk : World} {wd : Nat} {vP vH : Value} {F : Nat → Prop} {hs : List Nat} {g n : Nat} {f : Nat → Value}
/-- A new hold of bytes that lie in a block of their own. -/
theorem lent_raw (hL : RowIs wa g 5 n f) (hn : n ≤ maxLen) (hk : wk = wa.alloc (.cells #[.slice (some ⟨g, 0, none⟩) n n, .slice none 0 0, .slice none 0 0, .int .i64 0] 161)) :
    HoldRaw wk wa.heap.size 0 (.slice (some ⟨g, 0, none⟩) n n) (.slice none 0 0) (.slice none 0 0) n 0 0 (rowOf n f).toList [] [] := by
  subst hk
  exact ⟨(RowIs.new wa 161 4 (hold4 (.slice (some ⟨g, 0, none⟩) n n) (.slice none 0 0) (.slice none 0 0) 0)), own_of_row (hL.below ((Below.refl _ _).alloc (Nat.le_refl _) _) hL.lt) hn, World.ownsRow_nil _ _ _ _, World.ownsRow_nil _ _ _ _⟩
theorem lent_pre (h : WOk w wd RV vP vH F hs) (hB : Below w.heap.size w wa) (hL : RowIs wa g 5 n f) (hg : w.heap.size ≤ g) (o : Obj) (hk : wk = wa.alloc o) :
    Pre wk wd RV vP vH F hs wa.heap.size (.slice (some ⟨g, 0, none⟩) n n) (.slice none 0 0) (.slice none 0 0) ∧ (∀ b, b = wa.heap.size ∨ ownX (.slice (some ⟨g, 0, none⟩) n n) (.slice none 0 0) (.slice none 0 0) b → w.heap.size ≤ b) ∧ Below w.heap.size w wk := by
  subst hk
  have hs1 := hB.size
  have hB2 : Below w.heap.size w (wa.alloc o) := hB.alloc hs1 o
  have hlt := hL.lt
  have key : ∀ b, b = wa.heap.size ∨ ownX (.slice (some ⟨g, 0, none⟩) n n) (.slice none 0 0) (.slice none 0 0) b → w.heap.size ≤ b ∧ b < (wa.alloc o).heap.size := fun b e => by
    have hz : (wa.alloc o).heap.size = wa.heap.size + 1 := by simp
    rcases e with e | e | e | e
    · omega
    · cases e; show w.heap.size ≤ g ∧ g < _; omega
    · cases e
    · cases e
  refine ⟨⟨h.grown hB2, fun b e => ?_⟩, fun b e => (key b e).1, hB2⟩
  obtain ⟨k1, k2⟩ := key b e
  exact ⟨k2, fun e1 => by have := h.below b e1; omega, fun e1 => by have := h.row.lt; omega, fun e1 => by have := (h.own.lt b e1).2; omega⟩
end
end Go.Proofs.YtgccjefbedpmpaaGreatDoor

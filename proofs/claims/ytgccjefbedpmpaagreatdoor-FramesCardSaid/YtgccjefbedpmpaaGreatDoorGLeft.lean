import Derived.Test.YtgccjefbedpmpaaGreatDoorGApp
import Derived.Test.YtgccjefbedpmpaaGreatDoorGRSum
import Derived.Test.YtgccjefbedpmpaaGreatDoorGLent
namespace Go.Proofs.YtgccjefbedpmpaaGreatDoor
open Go.RowKit
theorem WOk.grown {w w' : World} {wd : Nat} {R : Nat → Int} {vP vH : Value} {F : Nat → Prop} {hs : List Nat} (h : WOk w wd R vP vH F hs) (hb : Below w.heap.size w w') : WOk w' wd R vP vH F hs :=
  ⟨h.row.below hb h.row.lt, own_below h.own hb, fun x hx => by
      obtain ⟨m, a, b, c, k⟩ := h.holds x hx
      exact ⟨m, a, b, c, k.frame fun y hy => hb.block y (h.below y hy)⟩, h.apart, fun b hy => Nat.lt_of_lt_of_le (h.below b hy) hb.size⟩
/-- What a step of a script leaves: the holds, and four more; nothing that lay there before is written into, but the world and its list of holds. -/
def Left (w w' : World) (wd : Nat) (vP vH : Value) (hs : List Nat) : Prop := ∃ vH' F' hs', WOk w' wd RV vP vH' F' hs' ∧ hs'.length = hs.length + 4 ∧ (∀ b, vH'.ownBlock = some b → vH.ownBlock = some b ∨ w.heap.size ≤ b) ∧ But (fun b => b = wd ∨ vH.ownBlock = some b) w w'
section
variable {w w1 w' : World} {wd : Nat} {vP vH : Value} {hs : List Nat}
theorem Left.of_below (hb : Below w.heap.size w w1) (h : Left w1 w' wd vP vH hs) : Left w w' wd vP vH hs := by
  obtain ⟨vH', F', hs', h1, h2, h3, h4⟩ := h
  exact ⟨vH', F', hs', h1, h2, fun b e => (h3 b e).elim Or.inl fun e => Or.inr (Nat.le_trans hb.size e), (But.below hb).trans h4⟩
theorem Left.then_below (h : Left w w1 wd vP vH hs) (hb : Below w1.heap.size w1 w') : Left w w' wd vP vH hs := by
  obtain ⟨vH', F', hs', h1, h2, h3, h4⟩ := h
  exact ⟨vH', F', hs', h1.grown hb, h2, h3, h4.trans (But.below hb)⟩
theorem Left.of_keep {F : Nat → Prop} {hb : Nat} {vb vo vl : Value} {mk : Int} {n1 n2 n3 : Nat} {vH' : Value} {hs' : List Nat} {g : Nat} {V1 V2 V3 : Value} {ls : List Value} (hB : Below w.heap.size w w1) (p : Pre w1 wd RV vP vH F hs hb vb vo vl)
    (k : Kst w1 w' wd RV vP vH F hs hb vb vo vl mk 4 n1 n2 n3 vH' hs' g V1 V2 V3 ls) (hp : 0 ≤ mk ∧ mk ≤ 9223372036854775807) (hx : ∀ b, b = hb ∨ ownX vb vo vl b → w.heap.size ≤ b) : Left w w' wd vP vH hs := by
  refine ⟨vH', _, hs', k.ok p hp, k.len, fun b e => (k.lieH b e).elim Or.inl fun e => Or.inr (Nat.le_trans hB.size e), ?_⟩
  have hs1 := hB.size
  have hs2 := k.but.size
  refine ⟨by omega, k.but.os.trans hB.os, k.but.tape.trans hB.tape, k.but.output.trans hB.output, fun b h1 h2 => (k.but.block b (by omega) fun e => ?_).trans (hB.block b h1)⟩
  rcases e with e | e | e | e
  · exact h2 (Or.inl e)
  · have := hx b (Or.inl e); omega
  · have := hx b (Or.inr e); omega
  · exact h2 (Or.inr e)
end
end Go.Proofs.YtgccjefbedpmpaaGreatDoor
namespace Go.Proofs.YtgccjefbedpmpaaGreatDoor
open Go.RowKit
/-- What a step of a script leaves: the holds, and at most eight more. -/
def LeftN (w w' : World) (wd : Nat) (vP vH : Value) (hs : List Nat) : Prop := ∃ vH' F' hs', WOk w' wd RV vP vH' F' hs' ∧ hs'.length ≤ hs.length + 8 ∧ (∀ b, vH'.ownBlock = some b → vH.ownBlock = some b ∨ w.heap.size ≤ b) ∧ But (fun b => b = wd ∨ vH.ownBlock = some b) w w'
section
variable {w w1 w2 w3 wk w' : World} {wd : Nat} {vP vH : Value} {hs : List Nat} {F : Nat → Prop} {hb : Nat} {vb vo vl : Value} {mk : Int} {n1 n2 n3 : Nat} {vH' : Value} {hs' : List Nat} {g : Nat} {V1 V2 V3 : Value} {ls : List Value}
theorem Left.toN (h : Left w w' wd vP vH hs) : LeftN w w' wd vP vH hs := by
  obtain ⟨vH', F', hs', h1, h2, h3, h4⟩ := h
  exact ⟨vH', F', hs', h1, by omega, h3, h4⟩
theorem LeftN.then_below (h : LeftN w w1 wd vP vH hs) (hb : Below w1.heap.size w1 w') : LeftN w w' wd vP vH hs := by
  obtain ⟨vH', F', hs', h1, h2, h3, h4⟩ := h
  exact ⟨vH', F', hs', h1.grown hb, h2, h3, h4.trans (But.below hb)⟩
theorem LeftN.of_below (hb : Below w.heap.size w w1) (h : LeftN w1 w' wd vP vH hs) : LeftN w w' wd vP vH hs := by
  obtain ⟨vH', F', hs', h1, h2, h3, h4⟩ := h
  exact ⟨vH', F', hs', h1, h2, fun b e => (h3 b e).elim Or.inl fun e => Or.inr (Nat.le_trans hb.size e), (But.below hb).trans h4⟩
/-- A new hold of lists that lie in new blocks. -/
theorem hold_pre (h : WOk w wd RV vP vH F hs) (hB : Below w.heap.size w w1) (o : Obj) (hk : wk = w1.alloc o) (ho : ∀ b, ownX vb vo vl b → w.heap.size ≤ b ∧ b < w1.heap.size) :
    Pre wk wd RV vP vH F hs w1.heap.size vb vo vl ∧ (∀ b, b = w1.heap.size ∨ ownX vb vo vl b → w.heap.size ≤ b) ∧ Below w.heap.size w wk := by
  subst hk
  have hs1 := hB.size
  have hB2 : Below w.heap.size w (w1.alloc o) := hB.alloc hs1 o
  have hz : (w1.alloc o).heap.size = w1.heap.size + 1 := by simp
  have key : ∀ b, b = w1.heap.size ∨ ownX vb vo vl b → w.heap.size ≤ b ∧ b < (w1.alloc o).heap.size := fun b e => by
    rcases e with e | e
    · omega
    · have := ho b e; omega
  refine ⟨⟨h.grown hB2, fun b e => ?_⟩, fun b e => (key b e).1, hB2⟩
  obtain ⟨k1, k2⟩ := key b e
  exact ⟨k2, fun e1 => by have := h.below b e1; omega, fun e1 => by have := h.row.lt; omega, fun e1 => by have := (h.own.lt b e1).2; omega⟩
/-- A second hold, of lists that lay there ahead of the first one and are apart from it. -/
theorem pre_again (h : WOk w wd RV vP vH F hs) (hB : Below w.heap.size w w1) (p : Pre w1 wd RV vP vH F hs hb vb vo vl)
    (k : Kst w1 w2 wd RV vP vH F hs hb vb vo vl mk 4 n1 n2 n3 vH' hs' g V1 V2 V3 ls) (hp : 0 ≤ mk ∧ mk ≤ 9223372036854775807) (h3 : Below w2.heap.size w2 w3) (o : Obj) (hk : wk = w3.alloc o) {ub uo ul : Value}
    (ho : ∀ b, ownX ub uo ul b → w.heap.size ≤ b ∧ b < w1.heap.size ∧ b ≠ hb ∧ ¬ ownX vb vo vl b) :
    Pre wk wd RV vP vH' (fun b => F b ∨ Gof w1 w2 hb vb vo vl vH' b) hs' w3.heap.size ub uo ul := by
  subst hk
  have hz : (w3.alloc o).heap.size = w3.heap.size + 1 := by simp
  have s1 := hB.size
  have s2 := k.but.size
  have s3 := h3.size
  have hok := k.ok p hp
  have hwd := h.row.lt
  refine ⟨(hok.grown h3).grown ((Below.refl _ _).alloc (Nat.le_refl _) _), fun b e => ?_⟩
  rcases e with e | e
  · subst e
    refine ⟨by omega, fun e => ?_, by omega, fun e => ?_⟩
    · have := hok.below _ e; omega
    · have := (hok.own.lt _ e).2; omega
  · obtain ⟨q1, q2, q3, q4⟩ := ho b e
    refine ⟨by omega, fun e => ?_, by omega, fun e => ?_⟩
    · rcases e with e | e | e | ⟨e, _, _⟩
      · have := h.below b e; omega
      · exact q3 e
      · exact q4 e
      · omega
    · rcases k.lieH b e with e | e
      · have := (h.own.lt b e).2; omega
      · omega
/-- What lay there ahead of a hold and is apart from it is not written into. -/
theorem Kst.block (h : WOk w wd RV vP vH F hs) (k : Kst w1 w2 wd RV vP vH F hs hb vb vo vl mk 4 n1 n2 n3 vH' hs' g V1 V2 V3 ls) {b : Nat} (h1 : w.heap.size ≤ b) (h2 : b < w1.heap.size) (h3 : b ≠ hb) (h4 : ¬ ownX vb vo vl b) : w2.heap[b]? = w1.heap[b]? :=
  k.but.block b h2 fun e => by
    rcases e with e | e | e | e
    · have := h.row.lt; omega
    · exact h3 e
    · exact h4 e
    · have := (h.own.lt b e).2; omega
/-- Two holds. -/
theorem LeftN.of_two {mk2 : Int} {m1 m2 m3 : Nat} {vH2 : Value} {hs2 : List Nat} {g2 : Nat} {U1 U2 U3 ub uo ul : Value} {hb2 : Nat} {ls2 : List Value} (hB : Below w.heap.size w w1) (hx : ∀ b, b = hb ∨ ownX vb vo vl b → w.heap.size ≤ b)
    (k : Kst w1 w2 wd RV vP vH F hs hb vb vo vl mk 4 n1 n2 n3 vH' hs' g V1 V2 V3 ls) (h3 : Below w2.heap.size w2 w3)
    (p2 : Pre w3 wd RV vP vH' (fun b => F b ∨ Gof w1 w2 hb vb vo vl vH' b) hs' hb2 ub uo ul) (k2 : Kst w3 w' wd RV vP vH' (fun b => F b ∨ Gof w1 w2 hb vb vo vl vH' b) hs' hb2 ub uo ul mk2 4 m1 m2 m3 vH2 hs2 g2 U1 U2 U3 ls2) (hp : 0 ≤ mk2 ∧ mk2 ≤ 9223372036854775807)
    (hy : ∀ b, b = hb2 ∨ ownX ub uo ul b → w.heap.size ≤ b) : LeftN w w' wd vP vH hs := by
  have s1 := hB.size
  have s2 := k.but.size
  have s3 := h3.size
  have s4 := k2.but.size
  refine ⟨vH2, _, hs2, k2.ok p2 hp, by have := k.len; have := k2.len; omega, fun b e => ?_, ?_⟩
  · rcases k2.lieH b e with e | e
    · rcases k.lieH b e with e | e
      · exact Or.inl e
      · exact Or.inr (by omega)
    · exact Or.inr (by omega)
  · refine ⟨by omega, k2.but.os.trans (h3.os.trans (k.but.os.trans hB.os)), k2.but.tape.trans (h3.tape.trans (k.but.tape.trans hB.tape)), k2.but.output.trans (h3.output.trans (k.but.output.trans hB.output)), fun b h1 h2 => ?_⟩
    have e1 := k.but.block b (by omega) fun e => by
      rcases e with e | e | e | e
      · exact h2 (Or.inl e)
      · have := hx b (Or.inl e); omega
      · have := hx b (Or.inr e); omega
      · exact h2 (Or.inr e)
    have e2 := k2.but.block b (by omega) fun e => by
      rcases e with e | e | e | e
      · exact h2 (Or.inl e)
      · have := hy b (Or.inl e); omega
      · have := hy b (Or.inr e); omega
      · rcases k.lieH b e with e | e
        · exact h2 (Or.inr e)
        · omega
    exact e2.trans ((h3.block b (by omega)).trans (e1.trans (hB.block b h1)))
end
end Go.Proofs.YtgccjefbedpmpaaGreatDoor
namespace Go.Proofs.YtgccjefbedpmpaaGreatDoor
open Go.RowKit
theorem own_of_row {w : World} {g n e : Nat} {f : Nat → Value} (h : RowIs w g e n f) (hn : n ≤ maxLen) : w.ownsRow 0 e 1 (.slice (some ⟨g, 0, none⟩) n n) n (rowOf n f).toList :=
  ⟨by rw [Array.length_toList, rowOf_size, Nat.mul_one], .inr ⟨g, n, rowOf n f, rfl, Nat.zero_le _, h, Nat.le_refl _, hn, by rw [rowOf_size, Nat.mul_one], by
    rw [Nat.mul_one]; exact List.take_of_length_le (by rw [Array.length_toList, rowOf_size]; exact Nat.le_refl _)⟩⟩
section
variable {w wa wk : World} {wd : Nat} {vP vH : Value} {F : Nat → Prop} {hs : List Nat} {g n : Nat} {f : Nat → Value}
/-- A new hold of bytes that lie in a block of their own. -/
theorem lent_raw (hL : RowIs wa g 5 n f) (hn : n ≤ maxLen) (hk : wk = wa.alloc (.cells #[.slice (some ⟨g, 0, none⟩) n n, .slice none 0 0, .slice none 0 0, .int .i64 0] 161)) :
    HoldRaw wk wa.heap.size 0 (.slice (some ⟨g, 0, none⟩) n n) (.slice none 0 0) (.slice none 0 0) n 0 0 (rowOf n f).toList [] [] := by
  subst hk
  exact ⟨(RowIs.new wa 161 4 (hold4 (.slice (some ⟨g, 0, none⟩) n n) (.slice none 0 0) (.slice none 0 0) 0)), own_of_row (hL.below ((Below.refl _ _).alloc (Nat.le_refl _) _) hL.lt) hn, World.ownsRow_nil _ _ _ _, World.ownsRow_nil _ _ _ _⟩
theorem lent_pre (h : WOk w wd RV vP vH F hs) (hB : Below w.heap.size w wa) (hL : RowIs wa g 5 n f) (hg : w.heap.size ≤ g) (o : Obj) (hk : wk = wa.alloc o) :
    Pre wk wd RV vP vH F hs wa.heap.size (.slice (some ⟨g, 0, none⟩) n n) (.slice none 0 0) (.slice none 0 0) ∧ (∀ b, b = wa.heap.size ∨ ownX (.slice (some ⟨g, 0, none⟩) n n) (.slice none 0 0) (.slice none 0 0) b → w.heap.size ≤ b) ∧ Below w.heap.size w wk := by
  subst hk
  have hs1 := hB.size
  have hB2 : Below w.heap.size w (wa.alloc o) := hB.alloc hs1 o
  have hlt := hL.lt
  have key : ∀ b, b = wa.heap.size ∨ ownX (.slice (some ⟨g, 0, none⟩) n n) (.slice none 0 0) (.slice none 0 0) b → w.heap.size ≤ b ∧ b < (wa.alloc o).heap.size := fun b e => by
    have hz : (wa.alloc o).heap.size = wa.heap.size + 1 := by simp
    rcases e with e | e | e | e
    · omega
    · cases e; show w.heap.size ≤ g ∧ g < _; omega
    · cases e
    · cases e
  refine ⟨⟨h.grown hB2, fun b e => ?_⟩, fun b e => (key b e).1, hB2⟩
  obtain ⟨k1, k2⟩ := key b e
  exact ⟨k2, fun e1 => by have := h.below b e1; omega, fun e1 => by have := h.row.lt; omega, fun e1 => by have := (h.own.lt b e1).2; omega⟩
end
end Go.Proofs.YtgccjefbedpmpaaGreatDoor
namespace Go.Proofs.YtgccjefbedpmpaaGreatDoor
open Go.RowKit
/-- The first of two lists of a step has been kept; the blocks of X are apart from it. -/
def Mid1 (w : World) (wd : Nat) (vP vH : Value) (F : Nat → Prop) (H : List Nat) (X : Nat → Prop) (wx : World) : Prop :=
  ∃ wk hb vb vo vl mk n1 n2 n3 vH' hs' g V1 V2 V3 ls, Pre wk wd RV vP vH F H hb vb vo vl ∧ Kst wk wx wd RV vP vH F H hb vb vo vl mk 4 n1 n2 n3 vH' hs' g V1 V2 V3 ls ∧ (0 ≤ mk ∧ mk ≤ 9223372036854775807) ∧ Below w.heap.size w wk ∧ (∀ b, b = hb ∨ ownX vb vo vl b → w.heap.size ≤ b) ∧ ∀ b, X b → w.heap.size ≤ b ∧ b < wk.heap.size ∧ b ≠ hb ∧ ¬ ownX vb vo vl b
section
variable {w w1 w3 wx wk : World} {wd : Nat} {vP vH : Value} {F : Nat → Prop} {H : List Nat} {X : Nat → Prop} {vb vo vl ub uo ul : Value} {nb no nl : Nat} {xb xo xl : List Value}
theorem mk_ok {n m : Nat} (h : (n + 8) * 8 ≤ 140737488355328) (hm : m ≤ n + 4) : (m + 4) * 8 ≤ 140737488355328 ∧ (0 : Int) ≤ (m : Int) + 1 ∧ (m : Int) + 1 ≤ 9223372036854775807 := by omega
theorem keep_first (hO : WOk w wd RV vP vH F H) (hH : (H.length + 8) * 8 ≤ 140737488355328) (hB : Below w.heap.size w w1) (o : Obj) (hk : wk = w1.alloc o) (ho : ∀ b, ownX vb vo vl b → w.heap.size ≤ b ∧ b < w1.heap.size)
    (hr : HoldRaw wk w1.heap.size 0 vb vo vl nb no nl xb xo xl) (s1 : nb + 3 ≤ 140737488355328) (s2 : (no + 3) * 40 ≤ 140737488355328) (s3 : (nl + 3) * 24 ≤ 140737488355328) (hX : ∀ b, X b → w.heap.size ≤ b ∧ b < w1.heap.size ∧ ¬ ownX vb vo vl b) :
    Calls Tryz.prog 83 #[.pointer (some ⟨wd, 0, none⟩), .pointer (some ⟨w1.heap.size, 0, none⟩)] wk fun e w' => e = .returned (.tuple #[]) ∧ Mid1 w wd vP vH F H X w' ∧ Below w.heap.size w wk ∧ ∀ b, X b → w'.heap[b]? = w1.heap[b]? := by
  obtain ⟨p, hx, hBk⟩ := hold_pre hO hB o hk ho
  obtain ⟨q0, q1⟩ := mk_ok hH (Nat.le_add_right H.length 4)
  refine (keep_any p hr q0 s1 s2 s3).mono ?_
  rintro e w' ⟨rfl, n1, n2, n3, vH', hs', g, V1, V2, V3, ls, k⟩
  have hz : wk.heap.size = w1.heap.size + 1 := by rw [hk]; simp
  have hx3 : ∀ b, X b → w.heap.size ≤ b ∧ b < wk.heap.size ∧ b ≠ w1.heap.size ∧ ¬ ownX vb vo vl b := fun b hb => by
    obtain ⟨h1, h2, h3⟩ := hX b hb
    exact ⟨h1, by omega, by omega, h3⟩
  refine ⟨rfl, ⟨wk, _, vb, vo, vl, _, n1, n2, n3, vH', hs', g, V1, V2, V3, ls, p, k, q1, hBk, hx, hx3⟩, hBk, fun b hb => ?_⟩
  obtain ⟨h1, h2, h3, h4⟩ := hx3 b hb
  rw [Kst.block hO k h1 h2 h3 h4, hk]
  exact heap_alloc_old w1 _ (hX b hb).2.1
theorem keep_again (hO : WOk w wd RV vP vH F H) (hH : (H.length + 8) * 8 ≤ 140737488355328) (h : Mid1 w wd vP vH F H X wx) (h3 : Below wx.heap.size wx w3) (o : Obj) (hk : wk = w3.alloc o) (hX : ∀ b, ownX ub uo ul b → X b)
    (hr : HoldRaw wk w3.heap.size 0 ub uo ul nb no nl xb xo xl) (s1 : nb + 3 ≤ 140737488355328) (s2 : (no + 3) * 40 ≤ 140737488355328) (s3 : (nl + 3) * 24 ≤ 140737488355328) :
    Calls Tryz.prog 83 #[.pointer (some ⟨wd, 0, none⟩), .pointer (some ⟨w3.heap.size, 0, none⟩)] wk fun e w' => e = .returned (.tuple #[]) ∧ LeftN w w' wd vP vH H := by
  obtain ⟨wq, hb, vb, vo, vl, mk, n1, n2, n3, vH', hs', g, V1, V2, V3, ls, p, k, hmk, hB, hx, hx3⟩ := h
  have p2 := pre_again hO hB p k hmk h3 o hk fun b hb => hx3 b (hX b hb)
  obtain ⟨q0, q1⟩ := mk_ok hH (Nat.le_of_eq k.len)
  refine (keep_any p2 hr q0 s1 s2 s3).mono ?_
  rintro e w' ⟨rfl, m1, m2, m3, vH2, hs2, g2, U1, U2, U3, ls2, k2⟩
  have z1 := hB.size
  have z2 := k.but.size
  have z3 := h3.size
  refine ⟨rfl, LeftN.of_two hB hx k (h3.trans (by rw [hk]; exact (Below.refl _ _).alloc h3.size _)) p2 k2 q1 fun b e => ?_⟩
  rcases e with e | e
  · omega
  · exact (hx3 b (hX b e)).1
end
end Go.Proofs.YtgccjefbedpmpaaGreatDoor

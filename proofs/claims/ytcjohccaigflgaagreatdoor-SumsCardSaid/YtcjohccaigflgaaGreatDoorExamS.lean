import Derived.Test.YtcjohccaigflgaaGreatDoorPack
import Derived.Test.YtcjohccaigflgaaGreatDoorUpTo
namespace Go.Proofs.YtcjohccaigflgaaGreatDoor
open Go.RowKit
/-- What lies in memory while the document's case is made. -/
structure ES (w w' : World) (r : Nat) : Prop where
  below : Below w.heap.size w w'
  roots : RowIs w' r 78 72 fun j => .int .u32 (RV j)
  ca : w'.rangeAt (r + 1) 0 [.int .i64 1, .int .u32 1, .int .u32 1, .int .u32 1, .int .u64 0, .int .i32 97]
  cc : w'.rangeAt (r + 1 + 1 + 1) 0 [.int .i64 1, .int .u32 2, .int .u32 1, .int .u32 3, .int .u64 1048577, .int .i32 99]
  oA : w'.rangeAt (r + 1 + 1 + 1 + 1) 0 [.int .i64 1, .int .u32 1, .int .u32 1, .int .u32 1, .int .u64 0, .int .i32 97]
  oB : w'.rangeAt (r + 1 + 1 + 1 + 1) 6 [.int .i64 1, .int .u32 1, .int .u32 2, .int .u32 2, .int .u64 1048577, .int .i32 98]
  cf : w'.rangeAt (r + 1 + 1 + 1 + 1 + 1) 0 [.int .i64 5, .int .u32 1, .int .u64 0, .int .u64 0, .int .u8 0, .int .u8 0, .int .u8 0, .slice (some ⟨r + 1 + 1 + 1 + 1, 0, none⟩) 2 2]
  lt : r + 1 + 1 + 1 + 1 + 1 < w'.heap.size
theorem ES.kept {w W w2 : World} {r : Nat} (h : ES w W r) (hb : Below W.heap.size W w2) : ES w w2 r := by
  have hl := h.lt
  exact ⟨h.below.trans (hb.mono h.below.size), h.roots.below hb h.roots.lt, range_below h.ca hb (by omega), range_below h.cc hb (by omega), range_below h.oA hb (by omega), range_below h.oB hb (by omega), range_below h.cf hb (by omega), Nat.lt_of_lt_of_le hl hb.size⟩
theorem alloc_rangeAt (w : World) (cs : List Value) (t : TypeId) (g o : Nat) (hg : g = w.heap.size) (xs : List Value) (hx : ∀ j v, xs[j]? = some v → cs[o + j]? = some v) : (w.alloc (.cells cs.toArray t)).rangeAt g o xs := fun j v hj => by
  subst hg
  rw [cell_of_row _ _ _ _ _ _ (heap_alloc_new w _), List.getElem?_toArray]; exact hx j v hj
theorem drop_get (cs xs : List Value) (o : Nat) (h : (cs.drop o).take xs.length = xs) : ∀ j v, xs[j]? = some v → cs[o + j]? = some v := fun j v hj => by
  have hl := (List.getElem?_eq_some_iff.1 hj).1
  rw [← h, List.getElem?_take_of_lt hl, List.getElem?_drop] at hj
  exact hj
theorem below1 (W : World) (o : Obj) : Below W.heap.size W (W.alloc o) := (Below.refl _ _).alloc (Nat.le_refl _) o
theorem ES.start {w w1 : World} (hb : Below w.heap.size w w1) : ES w ((((((World.setRow (w1.alloc (.cells Tryz.zeroCells78 78)) w1.heap.size (rowOf 72 fun j => .int .u32 (RV j))).alloc (.cells #[.int .i64 1, .int .u32 1, .int .u32 1, .int .u32 1, .int .u64 0, .int .i32 97] 43)).alloc (.cells #[.int .i64 1, .int .u32 1, .int .u32 2, .int .u32 2, .int .u64 1048577, .int .i32 98] 43)).alloc (.cells #[.int .i64 1, .int .u32 2, .int .u32 1, .int .u32 3, .int .u64 1048577, .int .i32 99] 43)).alloc (.cells #[.int .i64 1, .int .u32 1, .int .u32 1, .int .u32 1, .int .u64 0, .int .i32 97, .int .i64 1, .int .u32 1, .int .u32 2, .int .u32 2, .int .u64 1048577, .int .i32 98] 43)).alloc (.cells #[.int .i64 5, .int .u32 1, .int .u64 0, .int .u64 0, .int .u8 0, .int .u8 0, .int .u8 0, .slice (some ⟨w1.heap.size + 1 + 1 + 1 + 1, 0, none⟩) 2 2] 58)) w1.heap.size := by
  have hr0 : RowIs (World.setRow (w1.alloc (.cells Tryz.zeroCells78 78)) w1.heap.size (rowOf 72 fun j => .int .u32 (RV j))) w1.heap.size 78 72 fun j => .int .u32 (RV j) := by
    have h : RowIs (w1.alloc (.cells Tryz.zeroCells78 78)) w1.heap.size 78 72 fun _ => .int .u32 0 := by
      rw [show Tryz.zeroCells78 = rowOf 72 fun _ => .int .u32 0 from by kernel_rfl]
      exact RowIs.new _ _ _ _
    exact h.setRow _
  have hB0 : Below w.heap.size w (World.setRow (w1.alloc (.cells Tryz.zeroCells78 78)) w1.heap.size (rowOf 72 fun j => .int .u32 (RV j))) := below_setRow' (hb.trans ((below1 _ _).mono hb.size)) hb.size _
  have hs0 : (World.setRow (w1.alloc (.cells Tryz.zeroCells78 78)) w1.heap.size (rowOf 72 fun j => .int .u32 (RV j))).heap.size = w1.heap.size + 1 := by simp
  generalize hr : w1.heap.size = r at *
  generalize World.setRow (w1.alloc (.cells Tryz.zeroCells78 78)) r (rowOf 72 fun j => .int .u32 (RV j)) = U at *
  have s1 : (U.alloc (.cells #[.int .i64 1, .int .u32 1, .int .u32 1, .int .u32 1, .int .u64 0, .int .i32 97] 43)).heap.size = r + 1 + 1 := by simp [hs0]
  have r1 := alloc_rangeAt U [.int .i64 1, .int .u32 1, .int .u32 1, .int .u32 1, .int .u64 0, .int .i32 97] 43 (r + 1) 0 hs0.symm [.int .i64 1, .int .u32 1, .int .u32 1, .int .u32 1, .int .u64 0, .int .i32 97] (drop_get _ _ 0 rfl)
  have b1 := below1 U (.cells #[.int .i64 1, .int .u32 1, .int .u32 1, .int .u32 1, .int .u64 0, .int .i32 97] 43)
  generalize U.alloc (.cells #[.int .i64 1, .int .u32 1, .int .u32 1, .int .u32 1, .int .u64 0, .int .i32 97] 43) = U1 at *
  have s2 : (U1.alloc (.cells #[.int .i64 1, .int .u32 1, .int .u32 2, .int .u32 2, .int .u64 1048577, .int .i32 98] 43)).heap.size = r + 1 + 1 + 1 := by simp [s1]
  have b2 := below1 U1 (.cells #[.int .i64 1, .int .u32 1, .int .u32 2, .int .u32 2, .int .u64 1048577, .int .i32 98] 43)
  generalize U1.alloc (.cells #[.int .i64 1, .int .u32 1, .int .u32 2, .int .u32 2, .int .u64 1048577, .int .i32 98] 43) = U2 at *
  have s3 : (U2.alloc (.cells #[.int .i64 1, .int .u32 2, .int .u32 1, .int .u32 3, .int .u64 1048577, .int .i32 99] 43)).heap.size = r + 1 + 1 + 1 + 1 := by simp [s2]
  have r3 := alloc_rangeAt U2 [.int .i64 1, .int .u32 2, .int .u32 1, .int .u32 3, .int .u64 1048577, .int .i32 99] 43 (r + 1 + 1 + 1) 0 s2.symm [.int .i64 1, .int .u32 2, .int .u32 1, .int .u32 3, .int .u64 1048577, .int .i32 99] (drop_get _ _ 0 rfl)
  have b3 := below1 U2 (.cells #[.int .i64 1, .int .u32 2, .int .u32 1, .int .u32 3, .int .u64 1048577, .int .i32 99] 43)
  generalize U2.alloc (.cells #[.int .i64 1, .int .u32 2, .int .u32 1, .int .u32 3, .int .u64 1048577, .int .i32 99] 43) = U3 at *
  have s4 : (U3.alloc (.cells #[.int .i64 1, .int .u32 1, .int .u32 1, .int .u32 1, .int .u64 0, .int .i32 97, .int .i64 1, .int .u32 1, .int .u32 2, .int .u32 2, .int .u64 1048577, .int .i32 98] 43)).heap.size = r + 1 + 1 + 1 + 1 + 1 := by simp [s3]
  have r4 := alloc_rangeAt U3 [.int .i64 1, .int .u32 1, .int .u32 1, .int .u32 1, .int .u64 0, .int .i32 97, .int .i64 1, .int .u32 1, .int .u32 2, .int .u32 2, .int .u64 1048577, .int .i32 98] 43 (r + 1 + 1 + 1 + 1) 0 s3.symm [.int .i64 1, .int .u32 1, .int .u32 1, .int .u32 1, .int .u64 0, .int .i32 97] (drop_get _ _ 0 rfl)
  have r5 := alloc_rangeAt U3 [.int .i64 1, .int .u32 1, .int .u32 1, .int .u32 1, .int .u64 0, .int .i32 97, .int .i64 1, .int .u32 1, .int .u32 2, .int .u32 2, .int .u64 1048577, .int .i32 98] 43 (r + 1 + 1 + 1 + 1) 6 s3.symm [.int .i64 1, .int .u32 1, .int .u32 2, .int .u32 2, .int .u64 1048577, .int .i32 98] (drop_get _ _ 6 rfl)
  have b4 := below1 U3 (.cells #[.int .i64 1, .int .u32 1, .int .u32 1, .int .u32 1, .int .u64 0, .int .i32 97, .int .i64 1, .int .u32 1, .int .u32 2, .int .u32 2, .int .u64 1048577, .int .i32 98] 43)
  generalize U3.alloc (.cells #[.int .i64 1, .int .u32 1, .int .u32 1, .int .u32 1, .int .u64 0, .int .i32 97, .int .i64 1, .int .u32 1, .int .u32 2, .int .u32 2, .int .u64 1048577, .int .i32 98] 43) = U4 at *
  have r6 := alloc_rangeAt U4 [.int .i64 5, .int .u32 1, .int .u64 0, .int .u64 0, .int .u8 0, .int .u8 0, .int .u8 0, .slice (some ⟨r + 1 + 1 + 1 + 1, 0, none⟩) 2 2] 58 (r + 1 + 1 + 1 + 1 + 1) 0 s4.symm [.int .i64 5, .int .u32 1, .int .u64 0, .int .u64 0, .int .u8 0, .int .u8 0, .int .u8 0, .slice (some ⟨r + 1 + 1 + 1 + 1, 0, none⟩) 2 2] (drop_get _ _ 0 rfl)
  have b5 := below1 U4 (.cells #[.int .i64 5, .int .u32 1, .int .u64 0, .int .u64 0, .int .u8 0, .int .u8 0, .int .u8 0, .slice (some ⟨r + 1 + 1 + 1 + 1, 0, none⟩) 2 2] 58)
  have s5 : (U4.alloc (.cells #[.int .i64 5, .int .u32 1, .int .u64 0, .int .u64 0, .int .u8 0, .int .u8 0, .int .u8 0, .slice (some ⟨r + 1 + 1 + 1 + 1, 0, none⟩) 2 2] 58)).heap.size = r + 1 + 1 + 1 + 1 + 1 + 1 := by simp [s4]
  generalize U4.alloc (.cells #[.int .i64 5, .int .u32 1, .int .u64 0, .int .u64 0, .int .u8 0, .int .u8 0, .int .u8 0, .slice (some ⟨r + 1 + 1 + 1 + 1, 0, none⟩) 2 2] 58) = U5 at *
  have k4 : Below U4.heap.size U4 U5 := b5
  have k3 : Below U3.heap.size U3 U5 := b4.trans (k4.mono b4.size)
  have k2 : Below U2.heap.size U2 U5 := b3.trans (k3.mono b3.size)
  have k1 : Below U1.heap.size U1 U5 := b2.trans (k2.mono b2.size)
  have k0 : Below U.heap.size U U5 := b1.trans (k1.mono b1.size)
  exact ⟨hB0.trans (k0.mono hB0.size), hr0.below k0 (by omega), range_below r1 k1 (by omega), range_below r3 k3 (by omega), range_below r4 k4 (by omega), range_below r5 k4 (by omega), r6, by omega⟩
theorem cells8 {w : World} {g : Nat} {v0 v1 v2 v3 v4 v5 v6 v7 : Value} (h : w.rangeAt g 0 [v0, v1, v2, v3, v4, v5, v6, v7]) : w.cell? ⟨g, 0, none⟩ = some v0 ∧ w.cell? ⟨g, 1, none⟩ = some v1 ∧ w.cell? ⟨g, 2, none⟩ = some v2 ∧ w.cell? ⟨g, 3, none⟩ = some v3 ∧ w.cell? ⟨g, 4, none⟩ = some v4 ∧ w.cell? ⟨g, 5, none⟩ = some v5 ∧ w.cell? ⟨g, 6, none⟩ = some v6 ∧ w.cell? ⟨g, 7, none⟩ = some v7 :=
  ⟨h 0 v0 rfl, h 1 v1 rfl, h 2 v2 rfl, h 3 v3 rfl, h 4 v4 rfl, h 5 v5 rfl, h 6 v6 rfl, h 7 v7 rfl⟩
theorem ES.drew {w W : World} {r : Nat} (h : ES w W r) : ES w W.drew r := ⟨h.below.drew, h.roots, h.ca, h.cc, h.oA, h.oB, h.cf, h.lt⟩
/-- The steps of it, as they lie in memory. -/
def exC (sA sX sB sC : ByteArray) (r : Nat) : Array Value := #[.int .i64 1, .int .i64 0, .int .i64 0, .string ⟨#[97, 98, 99]⟩, .int .i64 0, .int .u32 0, .int .u64 0, .int .u64 0, .int .u8 0, .int .u8 0, .int .u8 0, .slice none 0 0, .int .i64 1, .int .u32 1, .int .u32 1, .int .u32 1, .int .u64 0, .int .i32 97, .int .u32 1, .int .i64 0, .int .i32 0, .int .u64 0, .int .u64 0,
  .int .i64 2, .int .i64 0, .int .i64 0, .string ⟨#[]⟩, .int .i64 5, .int .u32 1, .int .u64 0, .int .u64 0, .int .u8 0, .int .u8 0, .int .u8 0, .slice (some ⟨r, 0, none⟩) 2 2, .int .i64 0, .int .u32 0, .int .u32 0, .int .u32 0, .int .u64 0, .int .i32 0, .int .u32 0, .int .i64 0, .int .i32 0, .int .u64 0, .int .u64 0,
  .int .i64 2, .int .i64 0, .int .i64 0, .string ⟨#[]⟩, .int .i64 0, .int .u32 0, .int .u64 0, .int .u64 0, .int .u8 0, .int .u8 0, .int .u8 0, .slice none 0 0, .int .i64 0, .int .u32 0, .int .u32 0, .int .u32 0, .int .u64 0, .int .i32 0, .int .u32 0, .int .i64 0, .int .i32 0, .int .u64 0, .int .u64 0,
  .int .i64 3, .int .i64 0, .int .i64 0, .string sA, .int .i64 0, .int .u32 0, .int .u64 0, .int .u64 0, .int .u8 0, .int .u8 0, .int .u8 0, .slice none 0 0, .int .i64 0, .int .u32 0, .int .u32 0, .int .u32 0, .int .u64 0, .int .i32 0, .int .u32 0, .int .i64 0, .int .i32 0, .int .u64 0, .int .u64 0,
  .int .i64 3, .int .i64 0, .int .i64 0, .string sX, .int .i64 0, .int .u32 0, .int .u64 0, .int .u64 0, .int .u8 0, .int .u8 0, .int .u8 0, .slice none 0 0, .int .i64 0, .int .u32 0, .int .u32 0, .int .u32 0, .int .u64 0, .int .i32 0, .int .u32 0, .int .i64 0, .int .i32 0, .int .u64 0, .int .u64 0,
  .int .i64 4, .int .i64 0, .int .i64 0, .string ⟨#[]⟩, .int .i64 0, .int .u32 0, .int .u64 0, .int .u64 0, .int .u8 0, .int .u8 0, .int .u8 0, .slice none 0 0, .int .i64 0, .int .u32 0, .int .u32 0, .int .u32 0, .int .u64 0, .int .i32 0, .int .u32 1, .int .i64 0, .int .i32 0, .int .u64 0, .int .u64 0,
  .int .i64 4, .int .i64 0, .int .i64 0, .string ⟨#[]⟩, .int .i64 0, .int .u32 0, .int .u64 0, .int .u64 0, .int .u8 0, .int .u8 0, .int .u8 0, .slice none 0 0, .int .i64 0, .int .u32 0, .int .u32 0, .int .u32 0, .int .u64 0, .int .i32 0, .int .u32 2, .int .i64 0, .int .i32 0, .int .u64 0, .int .u64 0,
  .int .i64 5, .int .i64 0, .int .i64 0, .string ⟨#[]⟩, .int .i64 0, .int .u32 0, .int .u64 0, .int .u64 0, .int .u8 0, .int .u8 0, .int .u8 0, .slice none 0 0, .int .i64 0, .int .u32 0, .int .u32 0, .int .u32 0, .int .u64 0, .int .i32 0, .int .u32 0, .int .i64 0, .int .i32 97, .int .u64 0, .int .u64 0,
  .int .i64 5, .int .i64 0, .int .i64 0, .string ⟨#[]⟩, .int .i64 0, .int .u32 0, .int .u64 0, .int .u64 0, .int .u8 0, .int .u8 0, .int .u8 0, .slice none 0 0, .int .i64 0, .int .u32 0, .int .u32 0, .int .u32 0, .int .u64 0, .int .i32 0, .int .u32 0, .int .i64 1, .int .i32 98, .int .u64 0, .int .u64 0,
  .int .i64 5, .int .i64 0, .int .i64 0, .string ⟨#[]⟩, .int .i64 0, .int .u32 0, .int .u64 0, .int .u64 0, .int .u8 0, .int .u8 0, .int .u8 0, .slice none 0 0, .int .i64 0, .int .u32 0, .int .u32 0, .int .u32 0, .int .u64 0, .int .i32 0, .int .u32 0, .int .i64 1, .int .i32 100, .int .u64 0, .int .u64 0,
  .int .i64 7, .int .i64 0, .int .i64 0, .string ⟨#[]⟩, .int .i64 0, .int .u32 0, .int .u64 0, .int .u64 0, .int .u8 0, .int .u8 0, .int .u8 0, .slice none 0 0, .int .i64 1, .int .u32 2, .int .u32 1, .int .u32 3, .int .u64 1048577, .int .i32 99, .int .u32 0, .int .i64 0, .int .i32 0, .int .u64 0, .int .u64 0,
  .int .i64 8, .int .i64 0, .int .i64 0, .string ⟨#[]⟩, .int .i64 0, .int .u32 0, .int .u64 0, .int .u64 0, .int .u8 0, .int .u8 0, .int .u8 0, .slice none 0 0, .int .i64 0, .int .u32 0, .int .u32 0, .int .u32 0, .int .u64 0, .int .i32 0, .int .u32 0, .int .i64 0, .int .i32 0, .int .u64 0, .int .u64 0,
  .int .i64 6, .int .i64 0, .int .i64 0, .string ⟨#[]⟩, .int .i64 0, .int .u32 0, .int .u64 0, .int .u64 0, .int .u8 0, .int .u8 0, .int .u8 0, .slice none 0 0, .int .i64 0, .int .u32 0, .int .u32 0, .int .u32 0, .int .u64 0, .int .i32 0, .int .u32 0, .int .i64 1, .int .i32 0, .int .u64 0, .int .u64 0,
  .int .i64 8, .int .i64 0, .int .i64 0, .string ⟨#[]⟩, .int .i64 0, .int .u32 0, .int .u64 0, .int .u64 0, .int .u8 0, .int .u8 0, .int .u8 0, .slice none 0 0, .int .i64 0, .int .u32 0, .int .u32 0, .int .u32 0, .int .u64 0, .int .i32 0, .int .u32 0, .int .i64 0, .int .i32 0, .int .u64 0, .int .u64 0,
  .int .i64 9, .int .i64 0, .int .i64 0, .string ⟨#[]⟩, .int .i64 0, .int .u32 0, .int .u64 0, .int .u64 0, .int .u8 0, .int .u8 0, .int .u8 0, .slice none 0 0, .int .i64 0, .int .u32 0, .int .u32 0, .int .u32 0, .int .u64 0, .int .i32 0, .int .u32 0, .int .i64 0, .int .i32 0, .int .u64 0, .int .u64 0,
  .int .i64 10, .int .i64 0, .int .i64 0, .string ⟨#[]⟩, .int .i64 0, .int .u32 0, .int .u64 0, .int .u64 0, .int .u8 0, .int .u8 0, .int .u8 0, .slice none 0 0, .int .i64 0, .int .u32 0, .int .u32 0, .int .u32 0, .int .u64 0, .int .i32 0, .int .u32 0, .int .i64 0, .int .i32 0, .int .u64 0, .int .u64 1099511627776,
  .int .i64 13, .int .i64 0, .int .i64 0, .string sB, .int .i64 0, .int .u32 0, .int .u64 0, .int .u64 0, .int .u8 0, .int .u8 0, .int .u8 0, .slice none 0 0, .int .i64 0, .int .u32 0, .int .u32 0, .int .u32 0, .int .u64 0, .int .i32 0, .int .u32 0, .int .i64 0, .int .i32 0, .int .u64 0, .int .u64 0,
  .int .i64 13, .int .i64 1, .int .i64 0, .string sA, .int .i64 0, .int .u32 0, .int .u64 0, .int .u64 0, .int .u8 0, .int .u8 0, .int .u8 0, .slice none 0 0, .int .i64 0, .int .u32 0, .int .u32 0, .int .u32 0, .int .u64 0, .int .i32 0, .int .u32 0, .int .i64 0, .int .i32 0, .int .u64 0, .int .u64 0,
  .int .i64 8, .int .i64 1, .int .i64 0, .string ⟨#[]⟩, .int .i64 0, .int .u32 0, .int .u64 0, .int .u64 0, .int .u8 0, .int .u8 0, .int .u8 0, .slice none 0 0, .int .i64 0, .int .u32 0, .int .u32 0, .int .u32 0, .int .u64 0, .int .i32 0, .int .u32 0, .int .i64 0, .int .i32 0, .int .u64 0, .int .u64 0,
  .int .i64 11, .int .i64 0, .int .i64 0, .string ⟨#[]⟩, .int .i64 0, .int .u32 0, .int .u64 0, .int .u64 0, .int .u8 0, .int .u8 0, .int .u8 0, .slice none 0 0, .int .i64 0, .int .u32 0, .int .u32 0, .int .u32 0, .int .u64 0, .int .i32 0, .int .u32 4, .int .i64 0, .int .i32 0, .int .u64 0, .int .u64 0,
  .int .i64 12, .int .i64 0, .int .i64 0, .string ⟨#[]⟩, .int .i64 0, .int .u32 0, .int .u64 0, .int .u64 0, .int .u8 0, .int .u8 0, .int .u8 0, .slice none 0 0, .int .i64 0, .int .u32 0, .int .u32 0, .int .u32 0, .int .u64 0, .int .i32 0, .int .u32 0, .int .i64 0, .int .i32 0, .int .u64 0, .int .u64 0,
  .int .i64 13, .int .i64 0, .int .i64 0, .string sC, .int .i64 0, .int .u32 0, .int .u64 0, .int .u64 0, .int .u8 0, .int .u8 0, .int .u8 0, .slice none 0 0, .int .i64 0, .int .u32 0, .int .u32 0, .int .u32 0, .int .u64 0, .int .i32 0, .int .u32 0, .int .i64 0, .int .i32 0, .int .u64 0, .int .u64 0,
  .int .i64 14, .int .i64 0, .int .i64 0, .string ⟨#[]⟩, .int .i64 0, .int .u32 0, .int .u64 0, .int .u64 0, .int .u8 0, .int .u8 0, .int .u8 0, .slice none 0 0, .int .i64 0, .int .u32 0, .int .u32 0, .int .u32 0, .int .u64 0, .int .i32 0, .int .u32 0, .int .i64 0, .int .i32 0, .int .u64 0, .int .u64 0,
  .int .i64 15, .int .i64 0, .int .i64 1, .string ⟨#[]⟩, .int .i64 0, .int .u32 0, .int .u64 0, .int .u64 0, .int .u8 0, .int .u8 0, .int .u8 0, .slice none 0 0, .int .i64 0, .int .u32 0, .int .u32 0, .int .u32 0, .int .u64 0, .int .i32 0, .int .u32 0, .int .i64 0, .int .i32 0, .int .u64 0, .int .u64 1099511627776]
theorem infoOpZ : (Tryz.prog.info? 83).map (fun i => (i.zero, i.size, i.bytes)) = some (some (.agg #[.int .i64 0, .int .i64 0, .int .i64 0, .string ⟨#[]⟩, .int .i64 0, .int .u32 0, .int .u64 0, .int .u64 0, .int .u8 0, .int .u8 0, .int .u8 0, .slice none 0 0, .int .i64 0, .int .u32 0, .int .u32 0, .int .u32 0, .int .u64 0, .int .i32 0, .int .u32 0, .int .i64 0, .int .i32 0, .int .u64 0, .int .u64 0]), 23, 184) := by kernel_rfl
set_option maxRecDepth 100000 in
theorem exC_ok (sA sX sB sC : ByteArray) (r : Nat) (hA : sA.size ≤ 1000) (hX : sX.size ≤ 1000) (hB : sB.size ≤ 1000) (hC : sC.size ≤ 1000) : ∀ i, i < 24 → OpIs fun j => ((exC sA sX sB sC r)[i * 23 + j]?).getD .nilFunc := fun i hi => by
  have w32 : ∀ x : Int, 0 ≤ x ∧ x < 5 → W32 x := fun x hx => ⟨hx.1, by omega⟩
  match i, hi with
  | 0, _ => exact ⟨⟨_, rfl⟩, ⟨_, rfl, by decide⟩, ⟨_, rfl, w32 _ (by decide)⟩, ⟨_, rfl, w32 _ (by decide)⟩⟩
  | 1, _ => exact ⟨⟨_, rfl⟩, ⟨_, rfl, by decide⟩, ⟨_, rfl, w32 _ (by decide)⟩, ⟨_, rfl, w32 _ (by decide)⟩⟩
  | 2, _ => exact ⟨⟨_, rfl⟩, ⟨_, rfl, by decide⟩, ⟨_, rfl, w32 _ (by decide)⟩, ⟨_, rfl, w32 _ (by decide)⟩⟩
  | 3, _ => exact ⟨⟨_, rfl⟩, ⟨_, rfl, by omega⟩, ⟨_, rfl, w32 _ (by decide)⟩, ⟨_, rfl, w32 _ (by decide)⟩⟩
  | 4, _ => exact ⟨⟨_, rfl⟩, ⟨_, rfl, by omega⟩, ⟨_, rfl, w32 _ (by decide)⟩, ⟨_, rfl, w32 _ (by decide)⟩⟩
  | 5, _ => exact ⟨⟨_, rfl⟩, ⟨_, rfl, by decide⟩, ⟨_, rfl, w32 _ (by decide)⟩, ⟨_, rfl, w32 _ (by decide)⟩⟩
  | 6, _ => exact ⟨⟨_, rfl⟩, ⟨_, rfl, by decide⟩, ⟨_, rfl, w32 _ (by decide)⟩, ⟨_, rfl, w32 _ (by decide)⟩⟩
  | 7, _ => exact ⟨⟨_, rfl⟩, ⟨_, rfl, by decide⟩, ⟨_, rfl, w32 _ (by decide)⟩, ⟨_, rfl, w32 _ (by decide)⟩⟩
  | 8, _ => exact ⟨⟨_, rfl⟩, ⟨_, rfl, by decide⟩, ⟨_, rfl, w32 _ (by decide)⟩, ⟨_, rfl, w32 _ (by decide)⟩⟩
  | 9, _ => exact ⟨⟨_, rfl⟩, ⟨_, rfl, by decide⟩, ⟨_, rfl, w32 _ (by decide)⟩, ⟨_, rfl, w32 _ (by decide)⟩⟩
  | 10, _ => exact ⟨⟨_, rfl⟩, ⟨_, rfl, by decide⟩, ⟨_, rfl, w32 _ (by decide)⟩, ⟨_, rfl, w32 _ (by decide)⟩⟩
  | 11, _ => exact ⟨⟨_, rfl⟩, ⟨_, rfl, by decide⟩, ⟨_, rfl, w32 _ (by decide)⟩, ⟨_, rfl, w32 _ (by decide)⟩⟩
  | 12, _ => exact ⟨⟨_, rfl⟩, ⟨_, rfl, by decide⟩, ⟨_, rfl, w32 _ (by decide)⟩, ⟨_, rfl, w32 _ (by decide)⟩⟩
  | 13, _ => exact ⟨⟨_, rfl⟩, ⟨_, rfl, by decide⟩, ⟨_, rfl, w32 _ (by decide)⟩, ⟨_, rfl, w32 _ (by decide)⟩⟩
  | 14, _ => exact ⟨⟨_, rfl⟩, ⟨_, rfl, by decide⟩, ⟨_, rfl, w32 _ (by decide)⟩, ⟨_, rfl, w32 _ (by decide)⟩⟩
  | 15, _ => exact ⟨⟨_, rfl⟩, ⟨_, rfl, by decide⟩, ⟨_, rfl, w32 _ (by decide)⟩, ⟨_, rfl, w32 _ (by decide)⟩⟩
  | 16, _ => exact ⟨⟨_, rfl⟩, ⟨_, rfl, by omega⟩, ⟨_, rfl, w32 _ (by decide)⟩, ⟨_, rfl, w32 _ (by decide)⟩⟩
  | 17, _ => exact ⟨⟨_, rfl⟩, ⟨_, rfl, by omega⟩, ⟨_, rfl, w32 _ (by decide)⟩, ⟨_, rfl, w32 _ (by decide)⟩⟩
  | 18, _ => exact ⟨⟨_, rfl⟩, ⟨_, rfl, by decide⟩, ⟨_, rfl, w32 _ (by decide)⟩, ⟨_, rfl, w32 _ (by decide)⟩⟩
  | 19, _ => exact ⟨⟨_, rfl⟩, ⟨_, rfl, by decide⟩, ⟨_, rfl, w32 _ (by decide)⟩, ⟨_, rfl, w32 _ (by decide)⟩⟩
  | 20, _ => exact ⟨⟨_, rfl⟩, ⟨_, rfl, by decide⟩, ⟨_, rfl, w32 _ (by decide)⟩, ⟨_, rfl, w32 _ (by decide)⟩⟩
  | 21, _ => exact ⟨⟨_, rfl⟩, ⟨_, rfl, by omega⟩, ⟨_, rfl, w32 _ (by decide)⟩, ⟨_, rfl, w32 _ (by decide)⟩⟩
  | 22, _ => exact ⟨⟨_, rfl⟩, ⟨_, rfl, by decide⟩, ⟨_, rfl, w32 _ (by decide)⟩, ⟨_, rfl, w32 _ (by decide)⟩⟩
  | 23, _ => exact ⟨⟨_, rfl⟩, ⟨_, rfl, by decide⟩, ⟨_, rfl, w32 _ (by decide)⟩, ⟨_, rfl, w32 _ (by decide)⟩⟩
  | n + 24, h => exact absurd h (by omega)
set_option maxRecDepth 100000 in
theorem ex_up (W : World) (sA sX sB sC : ByteArray) (r : Nat) (hA : sA.size ≤ 1000) (hX : sX.size ≤ 1000) (hB : sB.size ≤ 1000) (hC : sC.size ≤ 1000) (hg : 10 < W.heap.size) (hK : ∀ j, j < 64 → W.cell? ⟨10, j, none⟩ = some (.int .u32 (KK j))) :
    Calls Tryz.prog 12 #[.slice (some ⟨W.heap.size, 0, none⟩) 24 24, .int .i64 1, .int .i64 1] (W.alloc (.cells (exC sA sX sB sC r) 83)) fun e w' => e = .returned (.int .i64 (-1)) ∧ Below (W.alloc (.cells (exC sA sX sB sC r) 83)).heap.size (W.alloc (.cells (exC sA sX sB sC r) 83)) w' := by
  have hb := below1 W (.cells (exC sA sX sB sC r) 83)
  refine upTo_any _ 24 24 _ (fun i j => ((exC sA sX sB sC r)[i * 23 + j]?).getD .nilFunc) (by decide) (fun i hi => ⟨W.heap.size, 0, rfl, fun j hj => ?_, exC_ok sA sX sB sC r hA hX hB hC i hi⟩) (Nat.lt_of_lt_of_le hg hb.size) (fun j hj => (hb.cell hg).trans (hK j hj))
  have hsz : (exC sA sX sB sC r).size = 552 := rfl
  rw [Nat.zero_add, cell_of_row _ _ _ _ _ _ (heap_alloc_new W _), Array.getElem?_eq_getElem (by omega)]
  rfl
end Go.Proofs.YtcjohccaigflgaaGreatDoor

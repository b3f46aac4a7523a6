import Derived.Test.YtcjohccaigflgaaGreatDoorProg
import Derived.WalkKit
import Derived.WalkSpells
import Derived.WalkLawsBesides
import Derived.BigRegion
import Derived.Deep.RegionWith
import Derived.Deep.MidRow
import Derived.Deep.RegionHeld3
namespace Go.Proofs.YtcjohccaigflgaaGreatDoor
open Go.RowKit

/-- n cells, the j-th holding f j. -/
def rowOf (n : Nat) (f : Nat → Value) : Array Value := Array.ofFn (n := n) fun i => f i
@[simp] theorem rowOf_size (n : Nat) (f : Nat → Value) : (rowOf n f).size = n := by simp [rowOf]
theorem rowOf_get {n : Nat} (f : Nat → Value) {j : Nat} (h : j < n) : (rowOf n f)[j]? = some (f j) := by simp [rowOf, h]
theorem rowOf_out {n : Nat} (f : Nat → Value) {j : Nat} (h : n ≤ j) : (rowOf n f)[j]? = none := by simp [rowOf]; omega
theorem rowOf_ext {n : Nat} {f : Nat → Value} {a : Array Value} (hs : a.size = n) (h : ∀ j, j < n → a[j]? = some (f j)) : a = rowOf n f := by
  apply Array.ext_getElem?
  intro i
  by_cases hi : i < n
  · rw [h i hi, rowOf_get f hi]
  · rw [rowOf_out f (by omega)]; simp; omega
theorem rowOf_congr {n : Nat} {f g : Nat → Value} (h : ∀ j, j < n → f j = g j) : rowOf n f = rowOf n g :=
  rowOf_ext (by simp) fun j hj => by rw [rowOf_get f hj, h j hj]
theorem rowOf_set (n : Nat) (f : Nat → Value) (k : Nat) (v : Value) : (rowOf n f).setIfInBounds k v = rowOf n (fun j => if j = k then v else f j) := by
  refine rowOf_ext (by simp) fun j hj => ?_
  rw [Array.getElem?_setIfInBounds]
  by_cases h : k = j
  · subst h; simp [hj]
  · rw [if_neg h, rowOf_get f hj, if_neg (fun e => h e.symm)]

/-- Block g is a row of n cells (of type t, none frozen), the j-th holding f j. -/
def RowIs (w : World) (g : Nat) (t : TypeId) (n : Nat) (f : Nat → Value) : Prop := w.heap[g]? = some (.cells (rowOf n f) t (0, 0))
theorem RowIs.cell {w : World} {g : Nat} {t : TypeId} {n : Nat} {f : Nat → Value} (h : RowIs w g t n f) {j : Nat} (hj : j < n) : w.cell? ⟨g, j, none⟩ = some (f j) := by
  rw [cell_of_row _ _ _ _ _ _ h, rowOf_get f hj]
theorem RowIs.free {w : World} {g : Nat} {t : TypeId} {n : Nat} {f : Nat → Value} (h : RowIs w g t n f) (j : Nat) : w.frozen? ⟨g, j, none⟩ = false := frozen_of_row _ _ _ _ _ h
theorem RowIs.lt {w : World} {g : Nat} {t : TypeId} {n : Nat} {f : Nat → Value} (h : RowIs w g t n f) : g < w.heap.size := by
  unfold RowIs at h
  by_cases hg : g < w.heap.size
  · exact hg
  · rw [Array.getElem?_eq_none (by omega)] at h; cases h
theorem RowIs.set {w : World} {g : Nat} {t : TypeId} {n : Nat} {f : Nat → Value} (h : RowIs w g t n f) (k : Nat) (v : Value) : RowIs (w.setCell ⟨g, k, none⟩ v) g t n (fun j => if j = k then v else f j) := by
  unfold RowIs
  rw [heap_setCell_same _ _ _ _ _ _ h, rowOf_set]
theorem RowIs.setOther {w : World} {g : Nat} {t : TypeId} {n : Nat} {f : Nat → Value} (h : RowIs w g t n f) {a : Addr} (ha : a.block ≠ g) (v : Value) : RowIs (w.setCell a v) g t n f := by
  unfold RowIs
  rw [heap_setCell_other _ _ _ _ (fun e => ha e.symm)]; exact h
theorem RowIs.setRow {w : World} {g : Nat} {t : TypeId} {n : Nat} {f : Nat → Value} (h : RowIs w g t n f) (f' : Nat → Value) : RowIs (w.setRow g (rowOf n f')) g t n f' := setRow_heap _ _ _ _ _ _ h
theorem RowIs.setRowOther {w : World} {g : Nat} {t : TypeId} {n : Nat} {f : Nat → Value} (h : RowIs w g t n f) {g' : Nat} (hg : g' ≠ g) (cs : Array Value) : RowIs (w.setRow g' cs) g t n f := by
  unfold RowIs
  rw [setRow_other _ _ _ _ (fun e => hg e.symm)]; exact h
theorem RowIs.drew {w : World} {g : Nat} {t : TypeId} {n : Nat} {f : Nat → Value} (h : RowIs w g t n f) : RowIs w.drew g t n f := h
theorem RowIs.below {w w' : World} {g : Nat} {t : TypeId} {n : Nat} {f : Nat → Value} {B : Nat} (h : RowIs w g t n f) (hb : Below B w w') (hg : g < B) : RowIs w' g t n f := by
  unfold RowIs; rw [hb.block g hg]; exact h
theorem RowIs.alloc {w : World} {g : Nat} {t : TypeId} {n : Nat} {f : Nat → Value} (h : RowIs w g t n f) (o : Obj) : RowIs (w.alloc o) g t n f := by
  unfold RowIs; rw [Below.heap_alloc _ _ _ h.lt]; exact h
theorem RowIs.congr {w : World} {g : Nat} {t : TypeId} {n : Nat} {f f' : Nat → Value} (h : RowIs w g t n f) (hf : ∀ j, j < n → f j = f' j) : RowIs w g t n f' := by
  unfold RowIs; rw [← rowOf_congr hf]; exact h
theorem RowIs.new (w : World) (t : TypeId) (n : Nat) (f : Nat → Value) : RowIs (w.alloc (.cells (rowOf n f) t)) w.heap.size t n f := heap_alloc_new _ _
/-- A row that is written out is the row of its cells. -/
theorem RowIs.of {w : World} {g : Nat} {t : TypeId} {cs : Array Value} {n : Nat} {f : Nat → Value} (h : w.heap[g]? = some (.cells cs t (0, 0))) (e : cs = rowOf n f) : RowIs w g t n f := by
  unfold RowIs; rw [← e]; exact h
theorem heap_last {w : World} {o : Obj} {n : Nat} (h : n = w.heap.size) : (w.alloc o).heap[n]? = some o := by subst h; exact heap_alloc_new _ _
theorem RowIs.last {w : World} {cs : Array Value} {t : TypeId} {g n : Nat} {f : Nat → Value} (h : g = w.heap.size) (e : cs = rowOf n f) : RowIs (w.alloc (.cells cs t)) g t n f := RowIs.of (heap_last h) e
theorem heap_old {w : World} {o : Obj} {n : Nat} (h : n < w.heap.size) : (w.alloc o).heap[n]? = w.heap[n]? := Below.heap_alloc _ _ _ h
theorem rows4 (w : World) (A B C D : Obj) : let w4 := (((w.alloc A).alloc B).alloc C).alloc D
    w4.heap[w.heap.size]? = some A ∧ w4.heap[w.heap.size + 1]? = some B ∧ w4.heap[w.heap.size + 1 + 1]? = some C ∧ w4.heap[w.heap.size + 1 + 1 + 1]? = some D ∧ Below w.heap.size w w4 := by
  intro w4
  refine ⟨?_, ?_, ?_, heap_last (by simp), ?_⟩
  · rw [show w4.heap[w.heap.size]? = _ from heap_old (by simp <;> omega), heap_old (by simp <;> omega), heap_old (by simp)]; exact heap_last rfl
  · rw [show w4.heap[w.heap.size + 1]? = _ from heap_old (by simp <;> omega), heap_old (by simp)]; exact heap_last (by simp)
  · rw [show w4.heap[w.heap.size + 1 + 1]? = _ from heap_old (by simp)]; exact heap_last (by simp)
  · exact ((((Below.refl _ _).alloc (Nat.le_refl _) _).alloc (by simp) _).alloc (by simp <;> omega) _).alloc (by simp <;> omega) _
theorem ints_one (k : IntKind) (n : Nat) (f : Nat → Int) : (rowOf n (fun j => .int k (f j))).all (·.oneCell') = true := by
  rw [Array.all_eq_true]
  intro i hi
  simp [rowOf, Value.oneCell']
theorem below_setRow' {B g : Nat} {w0 w : World} (hb : Below B w0 w) (hBg : B ≤ g) (cs : Array Value) : Below B w0 (w.setRow g cs) :=
  hb.trans ⟨rfl, rfl, rfl, by simp, fun k hk => setRow_other _ _ _ _ (by omega)⟩
theorem i64w (x : Int) (h : -9223372036854775808 ≤ x ∧ x ≤ 9223372036854775807) : IntKind.i64.wrap x = x := by
  have e : IntKind.i64.wrap x = if x % 18446744073709551616 ≥ 9223372036854775808 then x % 18446744073709551616 - 18446744073709551616 else x % 18446744073709551616 := by
    simp [IntKind.wrap, IntKind.bits, IntKind.signed]
  rw [e]; split <;> omega
theorem RowIs.cellSet {w : World} {g : Nat} {t : TypeId} {n : Nat} {f : Nat → Value} (h : RowIs w g t n f) {j k : Nat} (hj : j < n) (hne : j ≠ k) (v : Value) : (w.setCell ⟨g, k, none⟩ v).cell? ⟨g, j, none⟩ = some (f j) := by
  rw [(h.set k v).cell hj, if_neg hne]
end Go.Proofs.YtcjohccaigflgaaGreatDoor

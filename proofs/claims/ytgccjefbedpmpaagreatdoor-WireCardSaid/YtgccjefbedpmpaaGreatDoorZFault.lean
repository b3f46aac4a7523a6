import Derived.Test.YtgccjefbedpmpaaGreatDoorZAs
import Derived.Test.YtgccjefbedpmpaaGreatDoorGMem
namespace Go.Proofs.YtgccjefbedpmpaaGreatDoor
open Go.RowKit Go.Extern.Stop Go.Stop Go.Extern
/-- An error that is not nil. -/
def Err (v : Value) : Prop := ∃ t x, v = .iface t x
theorem in_nil (p : ByteArray) (w : World) : Calls Tryz.prog 120 #[.string p, .nilIface] w fun e w' => e = .returned .nilIface ∧ w' = w := by
  go_enter Tryz.func120, Tryz.ntmps120
  go_wp2
  go_ret
  exact ⟨rfl, rfl⟩
theorem in_err (p : ByteArray) (v : Value) (hv : Err v) (w : World) : Calls Tryz.prog 120 #[.string p, v] w fun e w' => (∃ x, e = .returned x ∧ Err x) ∧ Below w.heap.size w w' := by
  obtain ⟨t, x, rfl⟩ := hv
  go_enter Tryz.func120, Tryz.ntmps120
  go_wp2
  go_ret
  exact ⟨⟨_, rfl, _, _, rfl⟩, (Below.refl _ _).alloc (Nat.le_refl _) _⟩
theorem refuse_nil (n : Int) (w : World) : Calls Tryz.prog 110 #[.int .i64 n, .nilIface] w fun e w' => e = .returned .nilIface ∧ w' = w := by
  go_enter Tryz.func110, Tryz.ntmps110
  go_wp2
  go_ret
  exact ⟨rfl, rfl⟩
/-- A Refusal of this number. -/
def Ref (w : World) (n : Int) (v : Value) : Prop := ∃ g, v = .iface 179 (.pointer (some ⟨g, 0, none⟩)) ∧ w.cell? ⟨g, 0, none⟩ = some (.int .i64 n)
theorem refuse_err (n : Int) (v : Value) (hv : Err v) (w : World) : Calls Tryz.prog 110 #[.int .i64 n, v] w fun e w' => (∃ x, e = .returned x ∧ Ref w' n x) ∧ Below w.heap.size w w' := by
  obtain ⟨t, x, rfl⟩ := hv
  go_enter Tryz.func110, Tryz.ntmps110
  go_wp2
  go_ret
  exact ⟨⟨_, rfl, _, rfl, (cell_of_row _ _ _ _ _ _ (heap_alloc_new w _)).trans rfl⟩, (Below.refl _ _).alloc (Nat.le_refl _) _⟩
theorem Ref.err {w : World} {n : Int} {v : Value} (h : Ref w n v) : Err v := by obtain ⟨g, rfl, _⟩ := h; exact ⟨_, _, rfl⟩
theorem Ref.below {w w' : World} {n : Int} {v : Value} (h : Ref w n v) (hb : Below w.heap.size w w') : Ref w' n v := by
  obtain ⟨g, rfl, hc⟩ := h
  exact ⟨g, rfl, (hb.cell (block_lt_of_cell hc)).trans hc⟩
theorem number_nil (w : World) : Calls Tryz.prog 59 #[.nilIface] w fun e w' => e = .returned (.int .i64 0) ∧ w' = w := by
  go_enter Tryz.func59, Tryz.ntmps59
  go_wp2
  go_ret
  exact ⟨rfl, rfl⟩
/-- What the library's own variables hold: the handle of the type error. -/
def Handle (w : World) : Prop := w.cell? ⟨1, 0, none⟩ = some (.iface 330 (.agg #[.pointer (some ⟨15, 123, none⟩)]))
theorem number_ref (n : Int) (v : Value) (w : World) (hv : Ref w n v) (hg : Handle w) : Calls Tryz.prog 59 #[v] w fun e w' => e = .returned (.int .i64 n) ∧ Below w.heap.size w w' := by
  obtain ⟨g, rfl, hc⟩ := hv
  have hB : Below w.heap.size w (w.alloc (.cells #[.pointer none] 179)) := (Below.refl _ _).alloc (Nat.le_refl _) _
  have hgl := block_lt_of_cell hg
  have hcl := block_lt_of_cell hc
  have hg1 := (hB.cell hgl).trans hg
  have ht1 : (w.alloc (.cells #[.pointer none] 179)).cell? ⟨w.heap.size, 0, none⟩ = some (.pointer none) := (cell_of_row _ _ _ _ _ _ (heap_alloc_new w _)).trans rfl
  have hf1 : (w.alloc (.cells #[.pointer none] 179)).frozen? ⟨w.heap.size, 0, none⟩ = false := by simp
  go_enter Tryz.func59, Tryz.ntmps59
  go_wp2_with (go_at_call 108; refine (asHit ⟨g, 0, none⟩ ⟨w.heap.size, 0, none⟩ (.pointer none) _ hg1 ht1 hf1).mono ?_; rintro e w1 ⟨rfl, w2, hb2, rfl⟩; have hr2 := (RowIs.new w 179 1 (fun _ => .pointer none)).below hb2 (by simp); have k0 : (w2.setCell ⟨w.heap.size, 0, none⟩ (.pointer (some ⟨g, 0, none⟩))).cell? ⟨w.heap.size, 0, none⟩ = some (.pointer (some ⟨g, 0, none⟩)) := (hr2.set 0 _).cell (by omega); have k1 : (w2.setCell ⟨w.heap.size, 0, none⟩ (.pointer (some ⟨g, 0, none⟩))).cell? ⟨g, 0, none⟩ = some (.int .i64 n) := (World.cell?_of_block (heap_setCell_other _ _ _ _ (show g ≠ w.heap.size from Nat.ne_of_lt hcl))).trans ((hb2.cell (p := ⟨g, 0, none⟩) (by simp; omega)).trans ((hB.cell hcl).trans hc)))
  go_ret
  exact ⟨rfl, (hB.trans (hb2.mono hB.size)).setCell (Nat.le_refl _) _⟩
end Go.Proofs.YtgccjefbedpmpaaGreatDoor

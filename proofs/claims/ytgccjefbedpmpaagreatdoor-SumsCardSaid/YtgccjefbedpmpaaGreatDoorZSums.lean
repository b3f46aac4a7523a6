import Derived.Test.YtgccjefbedpmpaaGreatDoorGExam
namespace Go.Proofs.YtgccjefbedpmpaaGreatDoor
open Go.RowKit
set_option maxRecDepth 100000 in
theorem sums_any (a : Option Addr) (n cap : Nat) (w : World) (f : Nat → Nat → Value) (hn : n * 184 ≤ 140737488351232) (hS : ∀ i, i < n → ∃ g off, a = some ⟨g, off, none⟩ ∧ (∀ j, j < 23 → w.cell? ⟨g, off + i * 23 + j, none⟩ = some (f i j)) ∧ OpIs (f i)) (hg : 11 < w.heap.size) (hK : ∀ j, j < 64 → w.cell? ⟨11, j, none⟩ = some (.int .u32 (KK j))) :
   Calls Tryz.prog 3 #[.slice a n cap] w fun e w' => e = .returned (.bool true) ∧ Below w.heap.size w w' := by
  have hE := exam_any w hg hK
  have hU : ∀ W, Below w.heap.size w W → Calls Tryz.prog 16 #[.slice a n cap, .int .i64 1, .int .i64 1] W fun e w' => e = .returned (.int .i64 (-1)) ∧ Below W.heap.size W w' := fun W hW =>
    upTo_any a n cap W f hn (fun i hi => by
      obtain ⟨g, off, e, hc, ho⟩ := hS i hi
      exact ⟨g, off, e, fun j hj => (hW.cell (block_lt_of_cell (hc j hj))).trans (hc j hj), ho⟩) (Nat.lt_of_lt_of_le hg hW.size) fun j hj => (hW.cell hg).trans (hK j hj)
  have HE : Hid (Calls _ _ _ _ _) := hE
  have HU : Hid (∀ W, Below w.heap.size w W → Calls Tryz.prog 16 #[.slice a n cap, .int .i64 1, .int .i64 1] W fun e w' => e = .returned (.int .i64 (-1)) ∧ Below W.heap.size W w') := hU
  clear hE hU hS hK
  go_enter Tryz.func3, Tryz.ntmps3
  go_wp2_with (first
    | (go_at_call 15; refine HE.out.mono ?_; rintro e w1 ⟨rfl, hb1⟩)
    | (go_at_call 16; refine (HU.out _ hb1).mono ?_; rintro e w2 ⟨rfl, hb2⟩))
  go_ret
  exact ⟨rfl, hb1.trans (hb2.mono hb1.size)⟩
end Go.Proofs.YtgccjefbedpmpaaGreatDoor

import Derived.Test.YtcjohccaigflgaaGreatDoorSame
namespace Go.Proofs.YtcjohccaigflgaaGreatDoor
open Go.RowKit
set_option maxRecDepth 100000 in
theorem ksum_any (b off cap q r : Nat) (K m : Nat → Int) (w : World) (hg : 10 < w.heap.size) (hK : ∀ j, j < 64 → w.cell? ⟨10, j, none⟩ = some (.int .u32 (K j)))
    (hm : ∀ i, 0 ≤ m i ∧ m i ≤ 255) (hcell : ∀ i, i < 64 * q + r → w.cell? ⟨b, off + i, none⟩ = some (.int .u8 (m i))) (hb : b < w.heap.size) (hr : r < 64) (hn : 64 * q + r ≤ 140737488355328) (hcap : 64 * q + r ≤ cap) (hne : ¬ cap = 64 * q) :
   Calls Tryz.prog 52 #[.slice (some ⟨b, off, none⟩) (64 * q + r) cap] w fun e w' => e = .returned (.agg (rowOf 32 fun n => .int .u8 (outB (shaOf K m q r) n))) ∧ Below w.heap.size w w' := by
  have hc : ∀ W, Below w.heap.size w W → Calls Tryz.prog 95 #[.slice (some ⟨b, off, none⟩) (64 * q + r) cap] W fun e w' => e = .returned (.agg (rowOf 32 fun n => .int .u8 (outB (shaOf K m q r) n))) ∧ Below W.heap.size W w' := fun W hW =>
    sum_ne b off cap q r K m W (Nat.lt_of_lt_of_le hg hW.size) (fun j hj => (hW.cell hg).trans (hK j hj)) hm (fun i hi => (hW.cell hb).trans (hcell i hi)) (Nat.lt_of_lt_of_le hb hW.size) hr hn hcap hne
  have Hc : Hid (∀ W, Below w.heap.size w W → Calls Tryz.prog 95 #[.slice (some ⟨b, off, none⟩) (64 * q + r) cap] W fun e w' => e = .returned (.agg (rowOf 32 fun n => .int .u8 (outB (shaOf K m q r) n))) ∧ Below W.heap.size W w') := hc
  clear hcell hK hm hc
  have hb0 : Below w.heap.size w (w.alloc (.cells (rowOf 32 fun _ => .int .u8 0) 121)) := (Below.refl _ _).alloc (Nat.le_refl _) _
  have hr0 := RowIs.new w 121 32 fun _ => .int .u8 0
  go_enter Tryz.func52, Tryz.ntmps52
  go_wp2_with (first | (go_at_call 95; refine (Hc.out _ hb0).mono ?_; rintro e w7 ⟨rfl, hb7⟩; have hr07 := hr0.below hb7 hr0.lt) | (refine wpList_store_row rfl 121 (.tmp 2) (.tmp 4) rfl w.heap.size _ rfl rfl _ _ hr07 (by rw [rowOf_size]; exact info90) (by rw [rowOf_size, rowOf_size]) (ints_one _ _ _) ?_))
  exact bodyPost_ret (v := .agg (rowOf 32 fun n => .int .u8 (outB (shaOf K m q r) n))) (results_cell_row Tryz.results52 _ _ w.heap.size 121 _ (0, 0) _ rfl (hr07.setRow _) Tryz.underlying121 rfl (by rw [rowOf_size]; exact info90)) rfl ⟨rfl, below_setRow' (hb0.trans (hb7.mono hb0.size)) (Nat.le_refl _) _⟩
end Go.Proofs.YtcjohccaigflgaaGreatDoor

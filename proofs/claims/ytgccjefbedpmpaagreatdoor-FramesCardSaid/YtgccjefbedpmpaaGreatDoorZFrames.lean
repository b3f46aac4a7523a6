import Derived.Test.YtgccjefbedpmpaaGreatDoorGStepF
import Derived.Test.YtgccjefbedpmpaaGreatDoorZExamG
namespace Go.Proofs.YtgccjefbedpmpaaGreatDoor
open Go.RowKit
theorem frmT0 : FrmT ⟨0, 0, 0, 0, 0, 0, 0, []⟩ :=
  ⟨⟨by decide, by decide⟩, ⟨by decide, by decide⟩, ⟨by decide, by decide⟩, ⟨by decide, by decide⟩, Byt.cons (by decide) (Byt.cons (by decide) (Byt.cons (by decide) Byt.nil)), fun _ h => absurd h List.not_mem_nil⟩
theorem frmT5 : FrmT ⟨5, 1, 0, 0, 0, 0, 0, [⟨1, 1, 1, 1, 0, 97⟩, ⟨1, 1, 2, 2, 1048577, 98⟩]⟩ :=
  ⟨⟨by decide, by decide⟩, ⟨by decide, by decide⟩, ⟨by decide, by decide⟩, ⟨by decide, by decide⟩, Byt.cons (by decide) (Byt.cons (by decide) (Byt.cons (by decide) Byt.nil)), fun o h => by
    rcases List.mem_cons.1 h with rfl | h
    · exact ⟨by decide, by decide, by decide, by decide, by decide, by decide⟩
    · rcases List.mem_cons.1 h with rfl | h
      · exact ⟨by decide, by decide, by decide, by decide, by decide, by decide⟩
      · exact absurd h List.not_mem_nil⟩
theorem opF0 {w : World} {f : Nat → Value} (h : f 4 = .int .i64 0 ∧ f 5 = .int .u32 0 ∧ f 6 = .int .u64 0 ∧ f 7 = .int .u64 0 ∧ f 8 = .int .u8 0 ∧ f 9 = .int .u8 0 ∧ f 10 = .int .u8 0 ∧ f 11 = .slice none 0 0) : OpF w f :=
  ⟨⟨0, 0, 0, 0, 0, 0, 0, []⟩, none, 0, h, frmT0, Or.inl rfl, by decide⟩
theorem ops5 {w : World} {r : Nat} (hA : w.rangeAt r 0 [.int .i64 1, .int .u32 1, .int .u32 1, .int .u32 1, .int .u64 0, .int .i32 97]) (hB : w.rangeAt r 6 [.int .i64 1, .int .u32 1, .int .u32 2, .int .u32 2, .int .u64 1048577, .int .i32 98]) : OpsIs w (some ⟨r, 0, none⟩) [⟨1, 1, 1, 1, 0, 97⟩, ⟨1, 1, 2, 2, 1048577, 98⟩] := by
  refine Or.inr ⟨r, 0, rfl, fun i hi j hj => ?_⟩
  match i, hi with
  | 0, _ =>
    match j, hj with
    | 0, _ => exact hA 0 _ rfl
    | 1, _ => exact hA 1 _ rfl
    | 2, _ => exact hA 2 _ rfl
    | 3, _ => exact hA 3 _ rfl
    | 4, _ => exact hA 4 _ rfl
    | 5, _ => exact hA 5 _ rfl
  | 1, _ =>
    match j, hj with
    | 0, _ => exact hB 0 _ rfl
    | 1, _ => exact hB 1 _ rfl
    | 2, _ => exact hB 2 _ rfl
    | 3, _ => exact hB 3 _ rfl
    | 4, _ => exact hB 4 _ rfl
    | 5, _ => exact hB 5 _ rfl
set_option maxRecDepth 100000 in
set_option maxHeartbeats 4000000 in
theorem exC_F (w : World) (sA sX sB sC : ByteArray) (r : Nat) (hA : w.rangeAt r 0 [.int .i64 1, .int .u32 1, .int .u32 1, .int .u32 1, .int .u64 0, .int .i32 97]) (hB : w.rangeAt r 6 [.int .i64 1, .int .u32 1, .int .u32 2, .int .u32 2, .int .u64 1048577, .int .i32 98]) : ∀ i, i < 24 → OpF w fun j => ((exC sA sX sB sC r)[i * 23 + j]?).getD .nilFunc := fun i hi => by
  match i, hi with
  | 0, _ => exact opF0 ⟨rfl, rfl, rfl, rfl, rfl, rfl, rfl, rfl⟩
  | 1, _ => exact ⟨⟨5, 1, 0, 0, 0, 0, 0, [⟨1, 1, 1, 1, 0, 97⟩, ⟨1, 1, 2, 2, 1048577, 98⟩]⟩, some ⟨r, 0, none⟩, 2, ⟨rfl, rfl, rfl, rfl, rfl, rfl, rfl, rfl⟩, frmT5, ops5 hA hB, by decide⟩
  | 2, _ => exact opF0 ⟨rfl, rfl, rfl, rfl, rfl, rfl, rfl, rfl⟩
  | 3, _ => exact opF0 ⟨rfl, rfl, rfl, rfl, rfl, rfl, rfl, rfl⟩
  | 4, _ => exact opF0 ⟨rfl, rfl, rfl, rfl, rfl, rfl, rfl, rfl⟩
  | 5, _ => exact opF0 ⟨rfl, rfl, rfl, rfl, rfl, rfl, rfl, rfl⟩
  | 6, _ => exact opF0 ⟨rfl, rfl, rfl, rfl, rfl, rfl, rfl, rfl⟩
  | 7, _ => exact opF0 ⟨rfl, rfl, rfl, rfl, rfl, rfl, rfl, rfl⟩
  | 8, _ => exact opF0 ⟨rfl, rfl, rfl, rfl, rfl, rfl, rfl, rfl⟩
  | 9, _ => exact opF0 ⟨rfl, rfl, rfl, rfl, rfl, rfl, rfl, rfl⟩
  | 10, _ => exact opF0 ⟨rfl, rfl, rfl, rfl, rfl, rfl, rfl, rfl⟩
  | 11, _ => exact opF0 ⟨rfl, rfl, rfl, rfl, rfl, rfl, rfl, rfl⟩
  | 12, _ => exact opF0 ⟨rfl, rfl, rfl, rfl, rfl, rfl, rfl, rfl⟩
  | 13, _ => exact opF0 ⟨rfl, rfl, rfl, rfl, rfl, rfl, rfl, rfl⟩
  | 14, _ => exact opF0 ⟨rfl, rfl, rfl, rfl, rfl, rfl, rfl, rfl⟩
  | 15, _ => exact opF0 ⟨rfl, rfl, rfl, rfl, rfl, rfl, rfl, rfl⟩
  | 16, _ => exact opF0 ⟨rfl, rfl, rfl, rfl, rfl, rfl, rfl, rfl⟩
  | 17, _ => exact opF0 ⟨rfl, rfl, rfl, rfl, rfl, rfl, rfl, rfl⟩
  | 18, _ => exact opF0 ⟨rfl, rfl, rfl, rfl, rfl, rfl, rfl, rfl⟩
  | 19, _ => exact opF0 ⟨rfl, rfl, rfl, rfl, rfl, rfl, rfl, rfl⟩
  | 20, _ => exact opF0 ⟨rfl, rfl, rfl, rfl, rfl, rfl, rfl, rfl⟩
  | 21, _ => exact opF0 ⟨rfl, rfl, rfl, rfl, rfl, rfl, rfl, rfl⟩
  | 22, _ => exact opF0 ⟨rfl, rfl, rfl, rfl, rfl, rfl, rfl, rfl⟩
  | 23, _ => exact opF0 ⟨rfl, rfl, rfl, rfl, rfl, rfl, rfl, rfl⟩
  | n + 24, h => exact absurd h (by omega)
set_option maxRecDepth 100000 in
theorem examF_any (w : World) (hE : Env w) (hg9 : 15 ≤ w.heap.size) :
   Calls Tryz.prog 15 #[.int .i64 1, .int .i64 3] w fun e w' => e = .returned (.bool true) ∧ Below w.heap.size w w' := by
  refine exam_gen 1 3 w fun W r sA sX sB sC hW hr hA hB h1 h2 h3 h4 => ?_
  have hb := below1 W (.cells (exC sA sX sB sC r) 85)
  have hWb := hW.trans (hb.mono hW.size)
  refine upToF_any _ 24 24 _ (fun i j => ((exC sA sX sB sC r)[i * 23 + j]?).getD .nilFunc) (by decide) (fun i hi => ⟨W.heap.size, 0, rfl, fun j hj => ?_, exC_ok sA sX sB sC r h1 h2 h3 h4 i hi, exC_F _ sA sX sB sC r (range_below hA hb hr) (range_below hB hb hr) i hi⟩) (hE.below hWb) (Nat.le_trans hg9 hWb.size)
  have hsz : (exC sA sX sB sC r).size = 552 := rfl
  rw [Nat.zero_add, cell_of_row _ _ _ _ _ _ (heap_alloc_new W _), Array.getElem?_eq_getElem (by omega)]
  rfl
set_option maxRecDepth 100000 in
theorem frames_any (a : Option Addr) (n cap : Nat) (w : World) (f : Nat → Nat → Value) (hn : n * 184 ≤ 140737488351232) (hS : ∀ i, i < n → ∃ g off, a = some ⟨g, off, none⟩ ∧ (∀ j, j < 23 → w.cell? ⟨g, off + i * 23 + j, none⟩ = some (f i j)) ∧ OpIs (f i) ∧ OpF w (f i)) (hEn : Env w) (hg9 : 15 ≤ w.heap.size) :
   Calls Tryz.prog 4 #[.slice a n cap] w fun e w' => e = .returned (.bool true) ∧ Below w.heap.size w w' := by
  have hE := examF_any w hEn hg9
  have hU : ∀ W, Below w.heap.size w W → Calls Tryz.prog 16 #[.slice a n cap, .int .i64 1, .int .i64 3] W fun e w' => e = .returned (.int .i64 (-1)) ∧ Below W.heap.size W w' := fun W hW =>
    upToF_any a n cap W f hn (fun i hi => by
      obtain ⟨g, off, e, hc, ho, hF⟩ := hS i hi
      exact ⟨g, off, e, fun j hj => (hW.cell (block_lt_of_cell (hc j hj))).trans (hc j hj), ho, hF.below hW⟩) (hEn.below hW) (Nat.le_trans hg9 hW.size)
  have HE : Hid (Calls _ _ _ _ _) := hE
  have HU : Hid (∀ W, Below w.heap.size w W → Calls Tryz.prog 16 #[.slice a n cap, .int .i64 1, .int .i64 3] W fun e w' => e = .returned (.int .i64 (-1)) ∧ Below W.heap.size W w') := hU
  clear hE hU hS hEn
  go_enter Tryz.func4, Tryz.ntmps4
  go_wp2_with (first
    | (go_at_call 15; refine HE.out.mono ?_; rintro e w1 ⟨rfl, hb1⟩)
    | (go_at_call 16; refine (HU.out _ hb1).mono ?_; rintro e w2 ⟨rfl, hb2⟩))
  go_ret
  exact ⟨rfl, hb1.trans (hb2.mono hb1.size)⟩
end Go.Proofs.YtgccjefbedpmpaaGreatDoor

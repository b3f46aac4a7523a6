import Derived.Test.YtcjohccaigflgaaGreatDoorFree
namespace Go.Proofs.YtcjohccaigflgaaGreatDoor
open Go.RowKit
theorem alloc_range (w : World) (cs : List Value) (t : TypeId) : (w.alloc (.cells cs.toArray t)).rangeAt w.heap.size 0 cs := fun j v hj => by
  rw [Nat.zero_add, cell_of_row _ _ _ _ _ _ (heap_alloc_new w _), List.getElem?_toArray]; exact hj
theorem infoOp : (Tryz.prog.info? 83).map (·.size) = some 23 := by kernel_rfl
set_option maxRecDepth 100000 in
set_option maxHeartbeats 1000000 in
theorem step_any (s : ByteArray) (hs : s.size ≤ 140737488351232) (x1 x2 x4 x5 x6 x7 x8 x9 x10 x11 x12 x13 x15 x16 x17 x19 x20 x21 x22 : Value) (a c : Int) (ha : W32 a) (hc : W32 c) (wd : Nat) (vP vH : Value) (F : Nat → Prop) (H : List Nat) (w : World) (hO : WOk w wd RV vP vH F H) (hH : (H.length + 4) * 8 ≤ 140737488355328) (hg : 10 < w.heap.size) (hK : ∀ j, j < 64 → w.cell? ⟨10, j, none⟩ = some (.int .u32 (KK j))) :
   Calls Tryz.prog 36 #[.pointer (some ⟨wd, 0, none⟩), .agg #[.int .i64 1, x1, x2, .string s, x4, x5, x6, x7, x8, x9, x10, x11, x12, x13, .int .u32 c, x15, x16, x17, .int .u32 a, x19, x20, x21, x22]] w fun e w' => e = .returned (.bool true) ∧ Left w w' wd vP vH H := by
  have hf : ∀ W, Below w.heap.size w W → Calls Tryz.prog 59 #[.pointer (some ⟨wd, 0, none⟩), .agg #[.int .i64 1, x1, x2, .string s, x4, x5, x6, x7, x8, x9, x10, x11, x12, x13, .int .u32 c, x15, x16, x17, .int .u32 a, x19, x20, x21, x22]] W fun e w' => e = .returned (.bool true) ∧ Left W w' wd vP vH H := fun W hW =>
    free_any s hs x1 x2 x4 x5 x6 x7 x8 x9 x10 x11 x12 x13 x15 x16 x17 x19 x20 x21 x22 a c ha hc wd vP vH F H W (hO.grown hW) hH (Nat.lt_of_lt_of_le hg hW.size) fun j hj => (hW.cell hg).trans (hK j hj)
  have Hf : Hid (∀ W, Below w.heap.size w W → Calls Tryz.prog 59 #[.pointer (some ⟨wd, 0, none⟩), .agg #[.int .i64 1, x1, x2, .string s, x4, x5, x6, x7, x8, x9, x10, x11, x12, x13, .int .u32 c, x15, x16, x17, .int .u32 a, x19, x20, x21, x22]] W fun e w' => e = .returned (.bool true) ∧ Left W w' wd vP vH H) := hf
  clear hf hO hH hK hs ha hc
  go_enter Tryz.func36, Tryz.ntmps36
  have hr := alloc_range w [.int .i64 1, x1, x2, .string s, x4, x5, x6, x7, x8, x9, x10, x11, x12, x13, .int .u32 c, x15, x16, x17, .int .u32 a, x19, x20, x21, x22] 83
  have Hr : Hid (World.rangeAt _ _ _ _) := hr
  clear hr
  go_wp2_with (first
    | (refine wpList_load_mid rfl 83 (.tmp 3) rfl w.heap.size 0 rfl _ _ Hr.out Tryz.underlying83 rfl infoOp ?_)
    | (go_at_call 59; refine (Hf.out _ ((Below.refl _ _).alloc (Nat.le_refl _) _)).mono ?_; rintro e w1 ⟨rfl, hl⟩))
  go_ret
  exact ⟨rfl, Left.of_below ((Below.refl _ _).alloc (Nat.le_refl _) _) hl⟩
end Go.Proofs.YtcjohccaigflgaaGreatDoor

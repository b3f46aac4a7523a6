import Derived.Test.YtgccjefbedpmpaaGreatDoorGFreeUS
import Derived.Test.YtgccjefbedpmpaaGreatDoorGPackS
import Derived.Test.YtgccjefbedpmpaaGreatDoorGFree
namespace Go.Proofs.YtgccjefbedpmpaaGreatDoor
open Go.RowKit
set_option maxRecDepth 100000 in
set_option maxHeartbeats 1000000 in
theorem step_gen (k : Int) (h1 : 1 ≤ k) (h4 : k ≤ 4) (x1 x2 x3 x4 x5 x6 x7 x8 x9 x10 x11 x12 x13 x14 x15 x16 x17 x18 x19 x20 x21 x22 : Value) (wd : Nat) (vP vH : Value) (H : List Nat) (w : World)
    (hf : ∀ W, Below w.heap.size w W → Calls Tryz.prog 76 #[.pointer (some ⟨wd, 0, none⟩), .agg #[.int .i64 k, x1, x2, x3, x4, x5, x6, x7, x8, x9, x10, x11, x12, x13, x14, x15, x16, x17, x18, x19, x20, x21, x22]] W fun e w' => e = .returned (.bool true) ∧ LeftN W w' wd vP vH H) :
   Calls Tryz.prog 43 #[.pointer (some ⟨wd, 0, none⟩), .agg #[.int .i64 k, x1, x2, x3, x4, x5, x6, x7, x8, x9, x10, x11, x12, x13, x14, x15, x16, x17, x18, x19, x20, x21, x22]] w fun e w' => e = .returned (.bool true) ∧ LeftN w w' wd vP vH H := by
  have Hf : Hid (∀ W, Below w.heap.size w W → Calls Tryz.prog 76 #[.pointer (some ⟨wd, 0, none⟩), .agg #[.int .i64 k, x1, x2, x3, x4, x5, x6, x7, x8, x9, x10, x11, x12, x13, x14, x15, x16, x17, x18, x19, x20, x21, x22]] W fun e w' => e = .returned (.bool true) ∧ LeftN W w' wd vP vH H) := hf
  clear hf
  go_enter Tryz.func43, Tryz.ntmps43
  have hr := alloc_range w [.int .i64 k, x1, x2, x3, x4, x5, x6, x7, x8, x9, x10, x11, x12, x13, x14, x15, x16, x17, x18, x19, x20, x21, x22] 85
  have Hr : Hid (World.rangeAt _ _ _ _) := hr
  clear hr
  go_wp2_with (first
    | (refine wpList_load_mid rfl 85 (.tmp 3) rfl w.heap.size 0 rfl _ _ Hr.out Tryz.underlying85 rfl infoOp ?_)
    | (go_at_call 76; refine (Hf.out _ ((Below.refl _ _).alloc (Nat.le_refl _) _)).mono ?_; rintro e w1 ⟨rfl, hl⟩))
  go_ret
  exact ⟨rfl, LeftN.of_below ((Below.refl _ _).alloc (Nat.le_refl _) _) hl⟩
theorem OpF.below {w w' : World} {f : Nat → Value} (h : OpF w f) (hb : Below w.heap.size w w') : OpF w' f := by
  obtain ⟨F, a, cap, q, hT, hO, hn⟩ := h
  exact ⟨F, a, cap, q, hT, hO.below hb, hn⟩
theorem freeF_any (f : Nat → Value) (k : Int) (hk : 1 ≤ k ∧ k ≤ 3) (h0 : f 0 = .int .i64 k) (hop : OpIs f) (wd : Nat) (vP vH : Value) (F : Nat → Prop) (H : List Nat) (w : World) (hF : OpF w f) (hO : WOk w wd RV vP vH F H) (hH : (H.length + 8) * 8 ≤ 140737488355328) (hE : Env w) (hg9 : 15 ≤ w.heap.size) :
   Calls Tryz.prog 76 #[.pointer (some ⟨wd, 0, none⟩), .agg #[f 0, f 1, f 2, f 3, f 4, f 5, f 6, f 7, f 8, f 9, f 10, f 11, f 12, f 13, f 14, f 15, f 16, f 17, f 18, f 19, f 20, f 21, f 22]] w fun e w' => e = .returned (.bool true) ∧ LeftN w w' wd vP vH H := by
  obtain ⟨-, ⟨s, e3, hs⟩, ⟨c, e14, hc⟩, ⟨a, e18, ha⟩⟩ := hop
  have h3 : k = 1 ∨ k = 2 ∨ k = 3 := by omega
  rcases h3 with rfl | rfl | rfl
  · rw [h0, e3, e14, e18]
    refine (free_any s hs (f 1) (f 2) (f 4) (f 5) (f 6) (f 7) (f 8) (f 9) (f 10) (f 11) (f 12) (f 13) (f 15) (f 16) (f 17) (f 19) (f 20) (f 21) (f 22) a c ha hc wd vP vH F H w hO (by omega) hE.glt hE.table).mono ?_
    rintro e w' ⟨rfl, hl⟩
    exact ⟨rfl, hl.toN⟩
  · obtain ⟨Fm, aa, cap, ⟨q4, q5, q6, q7, q8, q9, q10, q11⟩, hT, hOp, hn⟩ := hF
    rw [h0, e3, q4, q5, q6, q7, q8, q9, q10, q11]
    exact freeP_any Fm aa cap hT hn s hs (f 1) (f 2) (f 12) (f 13) (f 14) (f 15) (f 16) (f 17) (f 18) (f 19) (f 20) (f 21) (f 22) wd vP vH F H w hO hH hE hOp
  · rw [h0, e3]
    exact freeU_any s hs (f 1) (f 2) (f 4) (f 5) (f 6) (f 7) (f 8) (f 9) (f 10) (f 11) (f 12) (f 13) (f 14) (f 15) (f 16) (f 17) (f 18) (f 19) (f 20) (f 21) (f 22) wd vP vH F H w hO hH hE hg9
theorem stepF_any (f : Nat → Value) (k : Int) (hk : 1 ≤ k ∧ k ≤ 3) (h0 : f 0 = .int .i64 k) (hop : OpIs f) (wd : Nat) (vP vH : Value) (F : Nat → Prop) (H : List Nat) (w : World) (hF : OpF w f) (hO : WOk w wd RV vP vH F H) (hH : (H.length + 8) * 8 ≤ 140737488355328) (hE : Env w) (hg9 : 15 ≤ w.heap.size) :
   Calls Tryz.prog 43 #[.pointer (some ⟨wd, 0, none⟩), .agg #[.int .i64 k, f 1, f 2, f 3, f 4, f 5, f 6, f 7, f 8, f 9, f 10, f 11, f 12, f 13, f 14, f 15, f 16, f 17, f 18, f 19, f 20, f 21, f 22]] w fun e w' => e = .returned (.bool true) ∧ LeftN w w' wd vP vH H := by
  refine step_gen k hk.1 (by omega) (f 1) (f 2) (f 3) (f 4) (f 5) (f 6) (f 7) (f 8) (f 9) (f 10) (f 11) (f 12) (f 13) (f 14) (f 15) (f 16) (f 17) (f 18) (f 19) (f 20) (f 21) (f 22) wd vP vH H w fun W hW => ?_
  have h := freeF_any f k hk h0 hop wd vP vH F H W (hF.below hW) (hO.grown hW) hH (hE.below hW) (Nat.le_trans hg9 hW.size)
  rw [h0] at h
  exact h
end Go.Proofs.YtgccjefbedpmpaaGreatDoor
namespace Go.Proofs.YtgccjefbedpmpaaGreatDoor
open Go.RowKit
set_option maxRecDepth 100000 in
set_option maxHeartbeats 1000000 in
theorem upToF_any (a : Option Addr) (n cap : Nat) (w : World) (f : Nat → Nat → Value) (hn : n * 184 ≤ 140737488351232) (hS : ∀ i, i < n → ∃ g off, a = some ⟨g, off, none⟩ ∧ (∀ j, j < 23 → w.cell? ⟨g, off + i * 23 + j, none⟩ = some (f i j)) ∧ OpIs (f i) ∧ OpF w (f i)) (hE : Env w) (hg9 : 15 ≤ w.heap.size) :
   Calls Tryz.prog 16 #[.slice a n cap, .int .i64 1, .int .i64 3] w fun e w' => e = .returned (.int .i64 (-1)) ∧ Below w.heap.size w w' := by
  have HS : Hid (∀ i, i < n → ∃ g off, a = some ⟨g, off, none⟩ ∧ (∀ j, j < 23 → w.cell? ⟨g, off + i * 23 + j, none⟩ = some (f i j)) ∧ OpIs (f i) ∧ OpF w (f i)) := hS
  have HE : Hid (Env w ∧ 15 ≤ w.heap.size) := ⟨hE, hg9⟩
  clear hS hE hg9
  go_enter Tryz.func16, Tryz.ntmps16
  go_wp2_with (first
    | (go_at_call 41; refine (roots_any _).mono ?_; rintro e w1 ⟨rfl, hb1⟩))
  have hw1 := world_row w1
  have hB0 := hb1.alloc hb1.size (.cells (Array.foldl (fun cs (x : Value × Nat) => cs.setIfInBounds x.snd x.fst) Tryz.zeroCells90 (rowOf 72 fun j => .int .u32 (RV j)).zipIdx 0 72) 90)
  have hO0 := WOk.mk (F := fun _ => False) (hs := []) hw1 (World.ownsRow_nil _ _ _ _) (fun _ h => by cases h) ⟨id, fun _ h => by cases h⟩ (fun _ h => h.elim)
  go_loopw [8] (fun i wr => ∃ k : Nat, k ≤ n ∧ i = .int .i64 k ∧ (∃ vH F H, WOk wr w1.heap.size RV (.slice none 0 0) vH F H ∧ H.length ≤ 8 * k ∧ ∀ b, vH.ownBlock = some b → w.heap.size ≤ b) ∧ Below w.heap.size w wr) (fun i _ => n - (intOf i).toNat)
  case atStart => exact ⟨0, Nat.zero_le _, rfl, ⟨_, _, _, hO0, Nat.le_refl _, fun _ h => by cases h⟩, hB0⟩
  case round =>
    obtain ⟨k, hk, rfl, ⟨vH, F, H, hO, hHl, hvH⟩, hbl⟩ := hrel
    by_cases hlt : k < n
    · obtain ⟨g, off, rfl, hc, hop, hof⟩ := HS.out k hlt
      have hc' : ∀ j, j < 23 → wr.cell? ⟨g, off + k * 23 + j, none⟩ = some (f k j) := fun j hj => (hbl.cell (block_lt_of_cell (hc j hj))).trans (hc j hj)
      obtain ⟨kk, e0⟩ := hop.1
      have c0 := hc' 0 (by decide)
      rw [e0, Nat.add_zero] at c0
      have lk : (k : Int) < (n : Int) := by omega
      rcases Int.lt_or_le kk 1 with h1 | h1
      · clear hc hc' hB0 hO0 hw1 HE HS
        go_wp2
        go_roundw
        case rel => exact ⟨k + 1, hlt, by go_num, ⟨vH, F, H, hO, by omega, hvH⟩, hbl⟩
        case measure => simp [intOf]; omega
      · rcases Int.lt_or_le 3 kk with h3 | h3
        · clear hc hc' hB0 hO0 hw1 HE HS
          go_wp2
          go_roundw
          case rel => exact ⟨k + 1, hlt, by go_num, ⟨vH, F, H, hO, by omega, hvH⟩, hbl⟩
          case measure => simp [intOf]; omega
        · have hR := range23 hc'
          rw [e0] at hR
          have HR : Hid (wr.rangeAt g (off + k * 23) [.int .i64 kk, f k 1, f k 2, f k 3, f k 4, f k 5, f k 6, f k 7, f k 8, f k 9, f k 10, f k 11, f k 12, f k 13, f k 14, f k 15, f k 16, f k 17, f k 18, f k 19, f k 20, f k 21, f k 22]) := hR
          have hH8 : (H.length + 8) * 8 ≤ 140737488355328 := by omega
          have hst := stepF_any (f k) kk ⟨h1, h3⟩ e0 hop w1.heap.size (.slice none 0 0) vH F H wr (hof.below hbl) hO hH8 (HE.out.1.below hbl) (Nat.le_trans HE.out.2 hbl.size)
          have Hst : Hid (Calls _ _ _ _ _) := hst
          clear hst hR hc hc' hB0 hO0 hw1 HE HS hop hof
          go_wp2_with (first
            | (refine wpList_load_mid rfl 85 (.tmp 39) rfl g (off + k * 23) rfl _ _ HR.out Tryz.underlying85 rfl infoOp ?_)
            | (go_at_call 43; refine Hst.out.mono ?_; rintro e w2 ⟨rfl, hl⟩; obtain ⟨vH2, F2, H2, hO2, hl2, hv2, hb2⟩ := hl)
            | (go_at_call 44; refine (looks_any hO2).mono ?_; rintro e w3 ⟨rfl, hb3⟩))
          go_roundw
          case rel => exact ⟨k + 1, hlt, by go_num, ⟨vH2, F2, H2, hO2.grown hb3, by omega, fun b e => (hv2 b e).elim (hvH b) fun e => Nat.le_trans hbl.size e⟩, (below_but hbl hb2 fun b e => e.elim (fun e => e ▸ hb1.size) (hvH b)).trans (hb3.mono (Nat.le_trans hbl.size hb2.size))⟩
          case measure => simp [intOf]; omega
    · obtain rfl : k = n := by omega
      go_wp2
      go_ret
      exact ⟨rfl, hbl⟩
end Go.Proofs.YtgccjefbedpmpaaGreatDoor

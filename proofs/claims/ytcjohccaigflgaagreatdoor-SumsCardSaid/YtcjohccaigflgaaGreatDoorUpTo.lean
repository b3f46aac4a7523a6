import Derived.Test.YtcjohccaigflgaaGreatDoorStep
namespace Go.Proofs.YtcjohccaigflgaaGreatDoor
open Go.RowKit
set_option maxRecDepth 100000 in
theorem comp_row (g : Nat → Value) : Array.foldl (fun cs (x : Value × Nat) => cs.setIfInBounds x.snd x.fst) Tryz.zeroCells88 (rowOf 72 g).zipIdx 0 72 = rowOf 74 fun j => if j < 72 then g j else .slice none 0 0 := by
  kernel_rfl
theorem range23 {w : World} {g o : Nat} {h : Nat → Value} (hc : ∀ j, j < 23 → w.cell? ⟨g, o + j, none⟩ = some (h j)) : w.rangeAt g o [h 0, h 1, h 2, h 3, h 4, h 5, h 6, h 7, h 8, h 9, h 10, h 11, h 12, h 13, h 14, h 15, h 16, h 17, h 18, h 19, h 20, h 21, h 22] := fun j v hj => by
  have hl : j < 23 := (List.getElem?_eq_some_iff.1 hj).1
  rw [hc j hl, ← hj]
  have e : [h 0, h 1, h 2, h 3, h 4, h 5, h 6, h 7, h 8, h 9, h 10, h 11, h 12, h 13, h 14, h 15, h 16, h 17, h 18, h 19, h 20, h 21, h 22] = (List.range 23).map h := rfl
  rw [e]
  simp [hl]
theorem below_but {w a b : World} {X : Nat → Prop} (h : Below w.heap.size w a) (k : But X a b) (hX : ∀ c, X c → w.heap.size ≤ c) : Below w.heap.size w b :=
  ⟨k.os.trans h.os, k.tape.trans h.tape, k.output.trans h.output, Nat.le_trans h.size k.size, fun c hc => (k.block c (Nat.lt_of_lt_of_le hc h.size) fun e => by have := hX c e; omega).trans (h.block c hc)⟩
theorem world_row (w : World) : RowIs (w.alloc (.cells (Array.foldl (fun cs (x : Value × Nat) => cs.setIfInBounds x.snd x.fst) Tryz.zeroCells88 (rowOf 72 fun j => .int .u32 (RV j)).zipIdx 0 72) 88)) w.heap.size 88 74 (wcell RV (.slice none 0 0) (.slice none 0 0)) := by
  rw [comp_row]
  refine (RowIs.new w _ 74 _).congr fun j hj => ?_
  unfold wcell
  split
  · rfl
  · split <;> rfl
set_option maxRecDepth 100000 in
set_option maxHeartbeats 1000000 in
theorem upTo_any (a : Option Addr) (n cap : Nat) (w : World) (f : Nat → Nat → Value) (hn : n * 184 ≤ 140737488351232) (hS : ∀ i, i < n → ∃ g off, a = some ⟨g, off, none⟩ ∧ (∀ j, j < 23 → w.cell? ⟨g, off + i * 23 + j, none⟩ = some (f i j)) ∧ OpIs (f i)) (hg : 10 < w.heap.size) (hK : ∀ j, j < 64 → w.cell? ⟨10, j, none⟩ = some (.int .u32 (KK j))) :
   Calls Tryz.prog 12 #[.slice a n cap, .int .i64 1, .int .i64 1] w fun e w' => e = .returned (.int .i64 (-1)) ∧ Below w.heap.size w w' := by
  have HS : Hid (∀ i, i < n → ∃ g off, a = some ⟨g, off, none⟩ ∧ (∀ j, j < 23 → w.cell? ⟨g, off + i * 23 + j, none⟩ = some (f i j)) ∧ OpIs (f i)) := hS
  have HK : Hid (∀ j, j < 64 → w.cell? ⟨10, j, none⟩ = some (.int .u32 (KK j))) := hK
  clear hS hK
  go_enter Tryz.func12, Tryz.ntmps12
  go_wp2_with (first
    | (go_at_call 34; refine (roots_any _).mono ?_; rintro e w1 ⟨rfl, hb1⟩))
  have hw1 := world_row w1
  have hB0 := hb1.alloc hb1.size (.cells (Array.foldl (fun cs (x : Value × Nat) => cs.setIfInBounds x.snd x.fst) Tryz.zeroCells88 (rowOf 72 fun j => .int .u32 (RV j)).zipIdx 0 72) 88)
  have hO0 := WOk.mk (F := fun _ => False) (hs := []) hw1 (World.ownsRow_nil _ _ _ _) (fun _ h => by cases h) ⟨id, fun _ h => by cases h⟩ (fun _ h => h.elim)
  go_loopw [8] (fun i wr => ∃ k : Nat, k ≤ n ∧ i = .int .i64 k ∧ (∃ vH F H, WOk wr w1.heap.size RV (.slice none 0 0) vH F H ∧ H.length ≤ 4 * k ∧ ∀ b, vH.ownBlock = some b → w.heap.size ≤ b) ∧ Below w.heap.size w wr) (fun i _ => n - (intOf i).toNat)
  case atStart => exact ⟨0, Nat.zero_le _, rfl, ⟨_, _, _, hO0, Nat.le_refl _, fun _ h => by cases h⟩, hB0⟩
  case round =>
    obtain ⟨k, hk, rfl, ⟨vH, F, H, hO, hHl, hvH⟩, hbl⟩ := hrel
    by_cases hlt : k < n
    · obtain ⟨g, off, rfl, hc, hop⟩ := HS.out k hlt
      have hc' : ∀ j, j < 23 → wr.cell? ⟨g, off + k * 23 + j, none⟩ = some (f k j) := fun j hj => (hbl.cell (block_lt_of_cell (hc j hj))).trans (hc j hj)
      obtain ⟨⟨kk, e0⟩, ⟨s, e3, hs⟩, ⟨c, e14, hcw⟩, ⟨d, e18, hdw⟩⟩ := hop
      have c0 := hc' 0 (by decide)
      rw [e0, Nat.add_zero] at c0
      have lk : (k : Int) < (n : Int) := by omega
      by_cases h1 : kk = 1
      · subst h1
        have hR := range23 hc'
        rw [e0, e3, e14, e18] at hR
        have HR : Hid (wr.rangeAt g (off + k * 23) [.int .i64 1, f k 1, f k 2, .string s, f k 4, f k 5, f k 6, f k 7, f k 8, f k 9, f k 10, f k 11, f k 12, f k 13, .int .u32 c, f k 15, f k 16, f k 17, .int .u32 d, f k 19, f k 20, f k 21, f k 22]) := hR
        have hH8 : (H.length + 4) * 8 ≤ 140737488355328 := by omega
        have hst := step_any s hs (f k 1) (f k 2) (f k 4) (f k 5) (f k 6) (f k 7) (f k 8) (f k 9) (f k 10) (f k 11) (f k 12) (f k 13) (f k 15) (f k 16) (f k 17) (f k 19) (f k 20) (f k 21) (f k 22) d c hdw hcw w1.heap.size (.slice none 0 0) vH F H wr hO hH8 (Nat.lt_of_lt_of_le hg hbl.size) (fun j hj => (hbl.cell hg).trans (HK.out j hj))
        have Hst : Hid (Calls _ _ _ _ _) := hst
        clear hst hR hc hc' hB0 hO0 hw1 HK
        go_wp2_with (first
          | (refine wpList_load_mid rfl 83 (.tmp 39) rfl g (off + k * 23) rfl _ _ HR.out Tryz.underlying83 rfl infoOp ?_)
          | (go_at_call 36; refine Hst.out.mono ?_; rintro e w2 ⟨rfl, hl⟩; obtain ⟨vH2, F2, H2, hO2, hl2, hv2, hb2⟩ := hl)
          | (go_at_call 37; refine (looks_any hO2).mono ?_; rintro e w3 ⟨rfl, hb3⟩))
        go_roundw
        case rel => exact ⟨k + 1, hlt, by go_num, ⟨vH2, F2, H2, hO2.grown hb3, by omega, fun b e => (hv2 b e).elim (hvH b) fun e => Nat.le_trans hbl.size e⟩, (below_but hbl hb2 fun b e => e.elim (fun e => e ▸ hb1.size) (hvH b)).trans (hb3.mono (Nat.le_trans hbl.size hb2.size))⟩
        case measure => simp [intOf]; omega
      · rcases Int.lt_or_gt_of_ne h1 with h1 | h1
        · go_wp2
          go_roundw
          case rel => exact ⟨k + 1, hlt, by go_num, ⟨vH, F, H, hO, by omega, hvH⟩, hbl⟩
          case measure => simp [intOf]; omega
        · go_wp2
          go_roundw
          case rel => exact ⟨k + 1, hlt, by go_num, ⟨vH, F, H, hO, by omega, hvH⟩, hbl⟩
          case measure => simp [intOf]; omega
    · obtain rfl : k = n := by omega
      go_wp2
      go_ret
      exact ⟨rfl, hbl⟩
end Go.Proofs.YtcjohccaigflgaaGreatDoor

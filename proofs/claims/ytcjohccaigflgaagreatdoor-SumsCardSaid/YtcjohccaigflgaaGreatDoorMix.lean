import Derived.Test.YtcjohccaigflgaaGreatDoorSched
import Derived.Deep.QuietTactic
import Derived.BigQuiet
namespace Go.Proofs.YtcjohccaigflgaaGreatDoor
open Go.RowKit
def rnd (k x : Int) (s : Nat → Int) : Nat → Int
  | 0 => (s 7 + S1 (s 4) + ch (s 4) (s 5) (s 6) + k + x + (S0 (s 0) + mj (s 0) (s 1) (s 2))) % 4294967296
  | 1 => s 0
  | 2 => s 1
  | 3 => s 2
  | 4 => (s 3 + (s 7 + S1 (s 4) + ch (s 4) (s 5) (s 6) + k + x)) % 4294967296
  | 5 => s 4
  | 6 => s 5
  | _ => s 6
def stt (K X : Nat → Int) (s : Nat → Int) : Nat → Nat → Int
  | 0 => s
  | k + 1 => rnd (K k) (X k) (stt K X s k)
theorem rnd_w (k x : Int) {s : Nat → Int} (h : ∀ j, W32 (s j)) : ∀ j, W32 (rnd k x s j) := by
  intro j
  match j with
  | 0 => exact ⟨Int.emod_nonneg _ (by decide), Int.emod_lt_of_pos _ (by decide)⟩
  | 1 => exact h 0
  | 2 => exact h 1
  | 3 => exact h 2
  | 4 => exact ⟨Int.emod_nonneg _ (by decide), Int.emod_lt_of_pos _ (by decide)⟩
  | 5 => exact h 4
  | 6 => exact h 5
  | _ + 7 => exact h 6
theorem stt_w (K X : Nat → Int) {s : Nat → Int} (h : ∀ j, W32 (s j)) (k : Nat) : ∀ j, W32 (stt K X s k j) := by
  induction k with
  | zero => exact h
  | succ k ih => exact rnd_w _ _ ih
/-- What a block makes of a state. -/
def blk (K X s : Nat → Int) (j : Nat) : Int := (stt K X s 64 j + s j) % 4294967296
theorem blk_w (K X s : Nat → Int) (j : Nat) : W32 (blk K X s j) := by unfold W32 blk; omega
theorem info27 : (Tryz.prog.info? 75).map (·.size) = some 8 := by kernel_rfl
theorem row8 (f : Nat → Value) : #[f 0, f 1, f 2, f 3, f 4, f 5, f 6, f 7] = rowOf 8 f := rfl
theorem one8 (a b c d e f g h : Int) : (#[Value.int .u32 a, .int .u32 b, .int .u32 c, .int .u32 d, .int .u32 e, .int .u32 f, .int .u32 g, .int .u32 h]).all (fun x => x.oneCell') = true := by simp [Value.oneCell']
theorem mix_rel1 {wr : World} {g : Nat} {K X s st : Nat → Int} {k : Nat} (hst : stt K X s k = st) (hr : RowIs wr g 75 8 (fun j => .int .u32 (st j))) :
    RowIs (wr.setRow g #[.int .u32 ((st 7 + S1 (st 4) + ch (st 4) (st 5) (st 6) + K k + X k + (S0 (st 0) + mj (st 0) (st 1) (st 2))) % 4294967296), .int .u32 (st 0), .int .u32 (st 1), .int .u32 (st 2), .int .u32 ((st 3 + (st 7 + S1 (st 4) + ch (st 4) (st 5) (st 6) + K k + X k)) % 4294967296), .int .u32 (st 4), .int .u32 (st 5), .int .u32 (st 6)]) g 75 8 (fun j => .int .u32 (stt K X s (k + 1) j)) := by
  subst hst
  exact hr.setRow (fun j => .int .u32 (stt K X s (k + 1) j))
/-- The sums as far as k. -/
def addTo (a s : Nat → Int) (k j : Nat) : Value := .int .u32 (if j < k then (a j + s j) % 4294967296 else a j)
theorem addTo_step (a s : Nat → Int) (k j : Nat) : (if j = k then Value.int .u32 ((a k + s k) % 4294967296) else addTo a s k j) = addTo a s (k + 1) j := by
  unfold addTo
  by_cases h : j = k
  · subst h; simp
  · by_cases h' : j < k
    · simp [h, h', show j < k + 1 by omega]
    · simp [h, h', show ¬ j < k + 1 by omega]
theorem addTo_at (a s : Nat → Int) (k : Nat) : addTo a s k k = .int .u32 (a k) := by simp [addTo]
theorem addTo_end (K X s : Nat → Int) : rowOf 8 (addTo (stt K X s 64) s 8) = rowOf 8 (fun j => .int .u32 (blk K X s j)) := rowOf_congr fun j hj => by simp [addTo, hj, blk]
theorem mix_rel2 {wr : World} {g : Nat} {a s : Nat → Int} {k : Nat} (hr : RowIs wr g 75 8 (addTo a s k)) : RowIs (wr.setCell ⟨g, k, none⟩ (.int .u32 ((a k + s k) % 4294967296))).drew g 75 8 (addTo a s (k + 1)) :=
  ((hr.set k _).drew).congr fun j _ => addTo_step a s k j
theorem RowIs.drewN {w : World} {g : Nat} {t : TypeId} {n : Nat} {f : Nat → Value} (h : RowIs w g t n f) (k : Nat) : RowIs (w.drewN k) g t n f := h
theorem Below.drewsN {B : Nat} {w w' : World} (h : Below B w w') (k : Nat) : Below B w (w'.drewN k) := ⟨h.os, h.tape, h.output, h.size, h.block⟩
set_option maxHeartbeats 2000000 in
theorem mix_any (s X K : Nat → Int) (w : World) (hg : 10 < w.heap.size) (hK : ∀ j, j < 64 → w.cell? ⟨10, j, none⟩ = some (.int .u32 (K j))) (hs : ∀ j, W32 (s j)) :
   Calls Tryz.prog 213 #[.agg #[.int .u32 (s 0), .int .u32 (s 1), .int .u32 (s 2), .int .u32 (s 3), .int .u32 (s 4), .int .u32 (s 5), .int .u32 (s 6), .int .u32 (s 7)], .agg (rowOf 64 fun j => .int .u32 (X j))] w fun e w' => e = .returned (.agg #[.int .u32 (blk K X s 0), .int .u32 (blk K X s 1), .int .u32 (blk K X s 2), .int .u32 (blk K X s 3), .int .u32 (blk K X s 4), .int .u32 (blk K X s 5), .int .u32 (blk K X s 6), .int .u32 (blk K X s 7)]) ∧ Below w.heap.size w w' := by
  go_enter Tryz.func213, Tryz.ntmps213
  go_wp2
  go_loopw [11] (fun i wr => ∃ k : Nat, k ≤ 64 ∧ i = .int .i64 k ∧ RowIs wr (w.heap.size + 3) 75 8 (fun j => .int .u32 (stt K X s k j)) ∧ RowIs wr w.heap.size 75 8 (fun j => .int .u32 (s j)) ∧ RowIs wr (w.heap.size + 1) 76 64 (fun j => .int .u32 (X j)) ∧ RowIs wr (w.heap.size + 2) 75 8 (fun _ => .int .u32 0) ∧ Below w.heap.size w wr)
    (fun i _ => 64 - (intOf i).toNat)
  case atStart =>
    obtain ⟨r1, r2, r3, r4, r5⟩ := rows4 w (.cells #[.int .u32 (s 0), .int .u32 (s 1), .int .u32 (s 2), .int .u32 (s 3), .int .u32 (s 4), .int .u32 (s 5), .int .u32 (s 6), .int .u32 (s 7)] 75) (.cells (rowOf 64 fun j => .int .u32 (X j)) 76) (.cells #[.int .u32 0, .int .u32 0, .int .u32 0, .int .u32 0, .int .u32 0, .int .u32 0, .int .u32 0, .int .u32 0] 75) (.cells #[.int .u32 (s 0), .int .u32 (s 1), .int .u32 (s 2), .int .u32 (s 3), .int .u32 (s 4), .int .u32 (s 5), .int .u32 (s 6), .int .u32 (s 7)] 75)
    exact ⟨0, by omega, rfl, RowIs.of r4 rfl, RowIs.of r1 rfl, r2, RowIs.of r3 rfl, r5⟩
  case round =>
    obtain ⟨k, hk, rfl, hr, hs0, hx0, hz, hbl⟩ := hrel
    by_cases hlt : k < 64
    · have sw := stt_w K X hs k
      generalize hst : stt K X s k = st at hr sw
      have c0 := hr.cell (show 0 < 8 by omega)
      have c1 := hr.cell (show 1 < 8 by omega)
      have c2 := hr.cell (show 2 < 8 by omega)
      have c3 := hr.cell (show 3 < 8 by omega)
      have c4 := hr.cell (show 4 < 8 by omega)
      have c5 := hr.cell (show 5 < 8 by omega)
      have c6 := hr.cell (show 6 < 8 by omega)
      have c7 := hr.cell (show 7 < 8 by omega)
      have cx := hx0.cell hlt
      have ck : wr.cell? ⟨10, k, none⟩ = some (.int .u32 (K k)) := (hbl.cell (by exact hg)).trans (hK k hlt)
      have lk : (k : Int) < 64 := by omega
      have w4 := sw 4
      have w0 := sw 0
      have Hst : Hid (stt K X s k = st) := hst
      clear hst sw hK hs hg
      go_wp2
      go_quiet ((first | (go_at_call 232; exact Calls.quiet_of_same (S1_any _ _ w4)) | (go_at_call 233; exact Calls.quiet_of_same (choose_any _ _ _ _))))
      go_wp2
      go_quiet ((first | (go_at_call 234; refine (S0_any _ _ w0).mono ?_; rintro e w' ⟨rfl, rfl⟩; exact ⟨rfl, _, rfl⟩) | (go_at_call 235; refine (majority_any _ _ _ _).mono ?_; rintro e w' ⟨rfl, rfl⟩; exact ⟨rfl, _, rfl⟩)))
      go_wp2_with (refine wpList_store_row rfl 75 (.tmp 5) (.tmp 66) rfl (w.heap.size + 3) _ rfl rfl _ _ hr ?hi ?ho ?h1 ?_)
      case hi => exact info27
      case ho => simp
      case h1 => exact one8 _ _ _ _ _ _ _ _
      go_wp2
      go_roundw
      case rel =>
        refine ⟨k + 1, by omega, by go_num, mix_rel1 Hst.out (hr.drewN _), (hs0.drewN _).setRowOther (by omega) _, (hx0.drewN _).setRowOther (by omega) _, (hz.drewN _).setRowOther (by omega) _, below_setRow' (Below.drewsN hbl _) (by omega) _⟩
      case measure => simp [intOf]; omega
    · obtain rfl : k = 64 := by omega
      have e64 : RowIs wr (w.heap.size + 3) 75 8 (addTo (stt K X s 64) s 0) := hr.congr fun j _ => by simp [addTo]
      generalize hae : stt K X s 64 = a at e64
      have Hae : Hid (stt K X s 64 = a) := hae
      clear hr hK hg hae
      go_wp2
      go_loopw [68] (fun i wr => ∃ k : Nat, k ≤ 8 ∧ i = .int .i64 k ∧ RowIs wr (w.heap.size + 3) 75 8 (addTo a s k) ∧ RowIs wr w.heap.size 75 8 (fun j => .int .u32 (s j)) ∧ RowIs wr (w.heap.size + 2) 75 8 (fun _ => .int .u32 0) ∧ Below w.heap.size w wr)
        (fun i _ => 8 - (intOf i).toNat)
      case atStart => exact ⟨0, by omega, rfl, e64, hs0, hz, hbl⟩
      case round =>
        clear hs0 hz hbl hx0 e64
        obtain ⟨k, hk, rfl, hr, hs0, hz, hbl⟩ := hrel
        by_cases hlt : k < 8
        · have c0 := (hr.cell hlt).trans (congrArg some (addTo_at a s k))
          have c1 := hs0.cell hlt
          have f0 := hr.free k
          have lk : (k : Int) < 8 := by omega
          go_wp2
          go_region
          go_wp2
          go_roundw
          case rel =>
            exact ⟨k + 1, by omega, by go_num, mix_rel2 hr, (hs0.setOther (by show w.heap.size + 1 + 1 + 1 ≠ w.heap.size; omega) _).drew, (hz.setOther (by show w.heap.size + 1 + 1 + 1 ≠ w.heap.size + 2; omega) _).drew, (hbl.setCell (by show w.heap.size ≤ w.heap.size + 1 + 1 + 1; omega) _).drew⟩
          case measure => simp [intOf]; omega
        · obtain rfl : k = 8 := by omega
          go_wp2_with (first | (refine wpList_load_row rfl 75 (.tmp 5) rfl (w.heap.size + 3) rfl _ _ (0, 0) _ hr Tryz.underlying75 rfl info27 ?_) | (refine wpList_store_row rfl 75 (.tmp 4) (.tmp 80) rfl (w.heap.size + 2) _ rfl rfl _ _ hz info27 rfl (ints_one _ _ _) ?_))
          refine bodyPost_ret (v := .agg (rowOf 8 (addTo a s 8))) (results_cell_row Tryz.results213 _ _ (w.heap.size + 2) 75 _ (0, 0) _ rfl (hz.setRow _) Tryz.underlying75 rfl info27) rfl ⟨?_, below_setRow' hbl (by omega) _⟩
          rw [← Hae.out, addTo_end]; rfl
end Go.Proofs.YtcjohccaigflgaaGreatDoor

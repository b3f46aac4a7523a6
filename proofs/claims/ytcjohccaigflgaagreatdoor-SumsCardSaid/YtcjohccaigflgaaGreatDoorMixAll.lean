import Derived.Test.YtcjohccaigflgaaGreatDoorMix
namespace Go.Proofs.YtcjohccaigflgaaGreatDoor
open Go.RowKit
theorem RowIs.set8 {w : World} {g : Nat} {t : TypeId} {f : Nat → Value} (h : RowIs w g t 8 f) (v : Nat → Value) : RowIs ((((((((w.setCell ⟨g, 0, none⟩ (v 0)).setCell ⟨g, 1, none⟩ (v 1)).setCell ⟨g, 2, none⟩ (v 2)).setCell ⟨g, 3, none⟩ (v 3)).setCell ⟨g, 4, none⟩ (v 4)).setCell ⟨g, 5, none⟩ (v 5)).setCell ⟨g, 6, none⟩ (v 6)).setCell ⟨g, 7, none⟩ (v 7)) g t 8 v := by
  refine ((((((((h.set 0 _).set 1 _).set 2 _).set 3 _).set 4 _).set 5 _).set 6 _).set 7 _).congr fun j hj => ?_
  match j, hj with
  | 0, _ => rfl
  | 1, _ => rfl
  | 2, _ => rfl
  | 3, _ => rfl
  | 4, _ => rfl
  | 5, _ => rfl
  | 6, _ => rfl
  | 7, _ => rfl
theorem RowIs.set8Other {w : World} {g g' : Nat} {t : TypeId} {n : Nat} {f : Nat → Value} (h : RowIs w g t n f) (hg : g' ≠ g) (v : Nat → Value) : RowIs ((((((((w.setCell ⟨g', 0, none⟩ (v 0)).setCell ⟨g', 1, none⟩ (v 1)).setCell ⟨g', 2, none⟩ (v 2)).setCell ⟨g', 3, none⟩ (v 3)).setCell ⟨g', 4, none⟩ (v 4)).setCell ⟨g', 5, none⟩ (v 5)).setCell ⟨g', 6, none⟩ (v 6)).setCell ⟨g', 7, none⟩ (v 7)) g t n f :=
  (((((((h.setOther hg _).setOther hg _).setOther hg _).setOther hg _).setOther hg _).setOther hg _).setOther hg _).setOther hg _
theorem below_set8 {B : Nat} {a w : World} {g : Nat} (h : Below B a w) (hg : B ≤ g) (v : Nat → Value) : Below B a ((((((((w.setCell ⟨g, 0, none⟩ (v 0)).setCell ⟨g, 1, none⟩ (v 1)).setCell ⟨g, 2, none⟩ (v 2)).setCell ⟨g, 3, none⟩ (v 3)).setCell ⟨g, 4, none⟩ (v 4)).setCell ⟨g, 5, none⟩ (v 5)).setCell ⟨g, 6, none⟩ (v 6)).setCell ⟨g, 7, none⟩ (v 7)) :=
  (((((((h.setCell hg _).setCell hg _).setCell hg _).setCell hg _).setCell hg _).setCell hg _).setCell hg _).setCell hg _
/-- The state behind the first n blocks. -/
def blks (K m s : Nat → Int) : Nat → Nat → Int
  | 0 => s
  | n + 1 => blk K (sch fun i => m (64 * n + i)) (blks K m s n)
theorem blks_w (K m : Nat → Int) {s : Nat → Int} (h : ∀ j, W32 (s j)) (n : Nat) : ∀ j, W32 (blks K m s n j) := by
  induction n with
  | zero => exact h
  | succ n ih => exact fun j => blk_w _ _ _ j
theorem mixAll_rel {w : World} {g : Nat} {K m s st : Nat → Int} {k : Nat} (hst : blks K m s k = st) (h : RowIs w g 75 8 (fun j => .int .u32 (st j))) :
    RowIs ((((((((w.setCell ⟨g, 0, none⟩ (.int .u32 (blk K (sch fun i => m (64 * k + i)) st 0))).setCell ⟨g, 1, none⟩ (.int .u32 (blk K (sch fun i => m (64 * k + i)) st 1))).setCell ⟨g, 2, none⟩ (.int .u32 (blk K (sch fun i => m (64 * k + i)) st 2))).setCell ⟨g, 3, none⟩ (.int .u32 (blk K (sch fun i => m (64 * k + i)) st 3))).setCell ⟨g, 4, none⟩ (.int .u32 (blk K (sch fun i => m (64 * k + i)) st 4))).setCell ⟨g, 5, none⟩ (.int .u32 (blk K (sch fun i => m (64 * k + i)) st 5))).setCell ⟨g, 6, none⟩ (.int .u32 (blk K (sch fun i => m (64 * k + i)) st 6))).setCell ⟨g, 7, none⟩ (.int .u32 (blk K (sch fun i => m (64 * k + i)) st 7))) g 75 8 (fun j => .int .u32 (blks K m s (k + 1) j)) := by
  subst hst
  exact h.set8 (fun j => .int .u32 (blks K m s (k + 1) j))
set_option maxHeartbeats 1000000 in
theorem mixAll_any (s K m : Nat → Int) (b off n cap : Nat) (w : World) (hg : 10 < w.heap.size) (hK : ∀ j, j < 64 → w.cell? ⟨10, j, none⟩ = some (.int .u32 (K j))) (hs : ∀ j, W32 (s j))
    (hm : ∀ i, 0 ≤ m i ∧ m i ≤ 255) (hcell : ∀ i, i < 64 * n → w.cell? ⟨b, off + i, none⟩ = some (.int .u8 (m i))) (hb : b < w.heap.size) (hn : 64 * n ≤ 140737488355328) (hcap : 64 * n ≤ cap) :
   Calls Tryz.prog 162 #[.agg #[.int .u32 (s 0), .int .u32 (s 1), .int .u32 (s 2), .int .u32 (s 3), .int .u32 (s 4), .int .u32 (s 5), .int .u32 (s 6), .int .u32 (s 7)], .slice (some ⟨b, off, none⟩) (64 * n) cap] w fun e w' => e = .returned (.agg #[.int .u32 (blks K m s n 0), .int .u32 (blks K m s n 1), .int .u32 (blks K m s n 2), .int .u32 (blks K m s n 3), .int .u32 (blks K m s n 4), .int .u32 (blks K m s n 5), .int .u32 (blks K m s n 6), .int .u32 (blks K m s n 7)]) ∧ Below w.heap.size w w' := by
  go_enter Tryz.func162, Tryz.ntmps162
  go_wp2
  go_loopw [5] (fun i wr => ∃ k : Nat, k ≤ n ∧ i = .int .i64 ((64 * k : Nat) : Int) ∧ RowIs wr w.heap.size 75 8 (fun j => .int .u32 (blks K m s k j)) ∧ RowIs wr (w.heap.size + 1) 75 8 (fun _ => .int .u32 0) ∧ Below w.heap.size w wr)
    (fun i _ => 64 * n - (intOf i).toNat)
  case atStart => exact ⟨0, by omega, rfl, RowIs.of (heap_alloc2_old _ _ _) rfl, RowIs.of (heap_alloc2_new _ _ _) rfl, ((Below.refl _ _).alloc (Nat.le_refl _) _).alloc (by simp) _⟩
  case round =>
    obtain ⟨k, hk, rfl, hr, hz, hbl⟩ := hrel
    by_cases hlt : k < n
    · have hsz := hbl.size
      have sw := blks_w K m hs k
      generalize hst : blks K m s k = st at hr sw
      have c0 := hr.cell (show 0 < 8 by omega)
      have c1 := hr.cell (show 1 < 8 by omega)
      have c2 := hr.cell (show 2 < 8 by omega)
      have c3 := hr.cell (show 3 < 8 by omega)
      have c4 := hr.cell (show 4 < 8 by omega)
      have c5 := hr.cell (show 5 < 8 by omega)
      have c6 := hr.cell (show 6 < 8 by omega)
      have c7 := hr.cell (show 7 < 8 by omega)
      have Hst : Hid (blks K m s k = st) := hst
      have t1 : (64 * (k : Int)).toNat = 64 * k := by omega
      have t2 : (64 * (k : Int) + 64).toNat = 64 * k + 64 := by omega
      have t3 : ¬ cap = 64 * k := by omega
      have t4 : (0 : Int) ≤ 64 * (k : Int) := by omega
      have t5 : (64 * (k : Int) + 64) ≤ cap := by omega
      have t6 : 64 * (k : Int) ≤ 64 * (k : Int) + 64 := by omega
      have t7 : IntKind.i64.wrap (64 * (k : Int) + 64) = 64 * (k : Int) + 64 := i64w _ (by omega)
      have t8 : 64 * k + 64 - 64 * k = 64 := by omega
      have hcx : ∀ i, i < 64 → wr.cell? ⟨b, off + 64 * k + i, none⟩ = some (.int .u8 (m (64 * k + i))) := fun i hi => by rw [Nat.add_assoc]; exact (hbl.cell (by exact hb)).trans (hcell _ (by omega))
      have hgk : ∀ j, j < 64 → wr.cell? ⟨10, j, none⟩ = some (.int .u32 (K j)) := fun j hj => (hbl.cell (by exact hg)).trans (hK j hj)
      have Hcx : Hid (∀ i, i < 64 → wr.cell? ⟨b, off + 64 * k + i, none⟩ = some (.int .u8 (m (64 * k + i)))) := hcx
      have Hgk : Hid (∀ j, j < 64 → wr.cell? ⟨10, j, none⟩ = some (.int .u32 (K j))) := hgk
      have Hhm : Hid (∀ i, 0 ≤ m i ∧ m i ≤ 255) := hm
      have hb' : b < wr.heap.size := by omega
      have hg' : 10 < wr.heap.size := by omega
      have hB : w.heap.size < wr.heap.size := hr.lt
      clear hst hcx hgk hcell hK hs hm
      go_wp2
      go_region_with (first | (go_at_call 214; refine (schedule_any b (off + 64 * k) 64 _ (fun i => m (64 * k + i)) _ ?_ ?_ ?_ ?_).mono ?_; exact Hcx.out; exact fun i => Hhm.out _; exact Nat.le_refl _; exact hb'; rintro e w1 ⟨rfl, hb1⟩; have d0 := (hb1.cell (p := ⟨w.heap.size, 0, none⟩) hB).trans c0; have d1 := (hb1.cell (p := ⟨w.heap.size, 1, none⟩) hB).trans c1; have d2 := (hb1.cell (p := ⟨w.heap.size, 2, none⟩) hB).trans c2; have d3 := (hb1.cell (p := ⟨w.heap.size, 3, none⟩) hB).trans c3; have d4 := (hb1.cell (p := ⟨w.heap.size, 4, none⟩) hB).trans c4; have d5 := (hb1.cell (p := ⟨w.heap.size, 5, none⟩) hB).trans c5; have d6 := (hb1.cell (p := ⟨w.heap.size, 6, none⟩) hB).trans c6; have d7 := (hb1.cell (p := ⟨w.heap.size, 7, none⟩) hB).trans c7) | (go_at_call 213; refine (mix_any st (sch fun i => m (64 * k + i)) K _ ?_ ?_ ?_).mono ?_; exact Nat.lt_of_lt_of_le hg' hb1.size; exact fun j hj => (hb1.cell hg').trans (Hgk.out j hj); exact sw; rintro e w2 ⟨rfl, hb2⟩; have r2 := (hr.drew.below hb1 hB).below hb2 (Nat.lt_of_lt_of_le hB hb1.size); have z2 := (hz.drew.below hb1 hz.lt).below hb2 (Nat.lt_of_lt_of_le hz.lt hb1.size); have b2 := (hbl.drew.trans (hb1.mono hsz)).trans (hb2.mono (Nat.le_trans hsz hb1.size)); have e0 := r2.cell (show 0 < 8 by omega); have e1 := r2.cell (show 1 < 8 by omega); have e2 := r2.cell (show 2 < 8 by omega); have e3 := r2.cell (show 3 < 8 by omega); have e4 := r2.cell (show 4 < 8 by omega); have e5 := r2.cell (show 5 < 8 by omega); have e6 := r2.cell (show 6 < 8 by omega); have e7 := r2.cell (show 7 < 8 by omega); have f2 := r2.free))
      all_goals go_wp2
      all_goals go_roundw
      all_goals first
        | exact ⟨k + 1, by omega, by go_num, mixAll_rel Hst.out (by assumption), RowIs.set8Other (by assumption) (by omega) (fun j => .int .u32 (blk K (sch fun i => m (64 * k + i)) st j)), below_set8 (by assumption) (Nat.le_refl _) (fun j => .int .u32 (blk K (sch fun i => m (64 * k + i)) st j))⟩
        | (simp [intOf]; omega)
    · obtain rfl : k = n := by omega
      go_wp2_with (first | (refine wpList_load_row rfl 75 (.tmp 2) rfl w.heap.size rfl _ _ (0, 0) _ hr Tryz.underlying75 rfl info27 ?_) | (refine wpList_store_row rfl 75 (.tmp 4) (.tmp 20) rfl (w.heap.size + 1) _ rfl rfl _ _ hz info27 rfl (ints_one _ _ _) ?_))
      refine bodyPost_ret (v := .agg (rowOf 8 fun j => .int .u32 (blks K m s k j))) (results_cell_row Tryz.results162 _ _ (w.heap.size + 1) 75 _ (0, 0) _ rfl (hz.setRow _) Tryz.underlying75 rfl info27) rfl ⟨rfl, below_setRow' hbl (by omega) _⟩
end Go.Proofs.YtcjohccaigflgaaGreatDoor

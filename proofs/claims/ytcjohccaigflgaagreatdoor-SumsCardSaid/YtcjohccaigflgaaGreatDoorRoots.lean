import Derived.Test.YtcjohccaigflgaaGreatDoorPrimes
import Derived.Deep.DeepCutAuto
namespace Go.Proofs.YtcjohccaigflgaaGreatDoor
open Go.RowKit
def P (i : Nat) : Int := (pl 310)[i]?.getD 0
def rt (k1 k2 j : Nat) : Value := .int .u32 (if j < k2 then ptF (P j) 2 37 % 4294967296 else if 8 ≤ j ∧ j < 8 + k1 then ptF (P (j - 8)) 3 37 % 4294967296 else 0)
theorem rt_step1 (k j : Nat) : (if j = 8 + k then Value.int .u32 (ptF (P k) 3 37 % 4294967296) else rt k 0 j) = rt (k + 1) 0 j := by
  unfold rt
  by_cases h : j = 8 + k
  · subst h; simp
  · have e : (8 ≤ j ∧ j < 8 + (k + 1)) ↔ (8 ≤ j ∧ j < 8 + k) := by omega
    rw [if_neg h]; simp only [e]
theorem rt_step2 (k j : Nat) : (if j = k then Value.int .u32 (ptF (P k) 2 37 % 4294967296) else rt 64 k j) = rt 64 (k + 1) j := by
  unfold rt
  by_cases h : j = k
  · subst h; simp
  · have e : j < k + 1 ↔ j < k := by omega
    rw [if_neg h]; simp only [e]
theorem info30 : (Tryz.prog.info? 78).map (·.size) = some 72 := by kernel_rfl
theorem z72 : #[Value.int .u32 0, Value.int .u32 0, Value.int .u32 0, Value.int .u32 0, Value.int .u32 0, Value.int .u32 0, Value.int .u32 0, Value.int .u32 0, Value.int .u32 0, Value.int .u32 0, Value.int .u32 0, Value.int .u32 0, Value.int .u32 0, Value.int .u32 0, Value.int .u32 0, Value.int .u32 0, Value.int .u32 0, Value.int .u32 0, Value.int .u32 0, Value.int .u32 0, Value.int .u32 0, Value.int .u32 0, Value.int .u32 0, Value.int .u32 0, Value.int .u32 0, Value.int .u32 0, Value.int .u32 0, Value.int .u32 0, Value.int .u32 0, Value.int .u32 0, Value.int .u32 0, Value.int .u32 0, Value.int .u32 0, Value.int .u32 0, Value.int .u32 0, Value.int .u32 0, Value.int .u32 0, Value.int .u32 0, Value.int .u32 0, Value.int .u32 0, Value.int .u32 0, Value.int .u32 0, Value.int .u32 0, Value.int .u32 0, Value.int .u32 0, Value.int .u32 0, Value.int .u32 0, Value.int .u32 0, Value.int .u32 0, Value.int .u32 0, Value.int .u32 0, Value.int .u32 0, Value.int .u32 0, Value.int .u32 0, Value.int .u32 0, Value.int .u32 0, Value.int .u32 0, Value.int .u32 0, Value.int .u32 0, Value.int .u32 0, Value.int .u32 0, Value.int .u32 0, Value.int .u32 0, Value.int .u32 0, Value.int .u32 0, Value.int .u32 0, Value.int .u32 0, Value.int .u32 0, Value.int .u32 0, Value.int .u32 0, Value.int .u32 0, Value.int .u32 0] = rowOf 72 (rt 0 0) := by
  have : rowOf 72 (fun _ => Value.int .u32 0) = rowOf 72 (rt 0 0) := rowOf_congr fun j _ => by unfold rt; rw [if_neg (by omega), if_neg (by omega)]
  rw [← this]; rfl
theorem zc30 : Tryz.zeroCells78 = rowOf 72 (rt 0 0) := z72
theorem rt_rel1 {w : World} {g k : Nat} (h : RowIs w g 78 72 (rt k 0)) : RowIs (w.setCell ⟨g, 8 + k, none⟩ (.int .u32 (ptF (P k) 3 37 % 4294967296))) g 78 72 (rt (k + 1) 0) := (h.set _ _).congr fun j _ => rt_step1 k j
theorem rt_rel2 {w : World} {g k : Nat} (h : RowIs w g 78 72 (rt 64 k)) : RowIs (w.setCell ⟨g, k, none⟩ (.int .u32 (ptF (P k) 2 37 % 4294967296))) g 78 72 (rt 64 (k + 1)) := (h.set _ _).congr fun j _ => rt_step2 k j
theorem own_get {w : World} {base g cap : Nat} (h : w.ownsRow base 41 1 (.slice (some ⟨g, 0, none⟩) 64 cap) 64 (u64s (pl 310))) {i : Nat} (hi : i < 64) : w.cell? ⟨g, i, none⟩ = some (.int .u64 (P i)) := by
  have hl : i < (pl 310).length := by rw [pl_310]; exact hi
  rw [h.cellAt i (by omega)]; simp [u64s, P, hl]
theorem own_kept {w w' : World} {base e n : Nat} {v : Value} {xs : List Value} (h : w.ownsRow base e 1 v n xs) {B : Nat} (hb : Below B w w') (hB : ∀ k, v.ownBlock = some k → k < B) : w'.ownsRow base e 1 v n xs := by
  refine ⟨h.1, ?_⟩
  rcases h.2 with h2 | ⟨g, cap, cur, rfl, h3, h4, h5, h6, h7, h8⟩
  · exact .inl h2
  · exact .inr ⟨g, cap, cur, rfl, h3, (hb.block g (hB g rfl)).trans h4, h5, h6, h7, h8⟩
/-- The primes lie in block g. -/
def PC (w : World) (g : Nat) : Prop := g < w.heap.size ∧ ∀ i, i < 64 → w.cell? ⟨g, i, none⟩ = some (.int .u64 (P i))
theorem PC.below {w w' : World} {g : Nat} (h : PC w g) (hb : Below w.heap.size w w') : PC w' g := ⟨Nat.lt_of_lt_of_le h.1 hb.size, fun i hi => (hb.cell (p := ⟨g, i, none⟩) h.1).trans (h.2 i hi)⟩
theorem PC.set {w : World} {g : Nat} (h : PC w g) {a : Addr} (ha : a.block ≠ g) (v : Value) : PC (w.setCell a v) g :=
  ⟨by simpa [World.setCell] using h.1, fun i hi => (World.cell?_of_block (w := w) (a := ⟨g, i, none⟩) (heap_setCell_other _ _ _ _ (fun e => ha e.symm))).trans (h.2 i hi)⟩
set_option maxRecDepth 100000 in
set_option maxHeartbeats 1000000 in
theorem newRoots_any (w : World) :
   Calls Tryz.prog 34 #[] w fun e w' => e = .returned (.agg (rowOf 72 (rt 64 8))) ∧ Below w.heap.size w w' := by
  go_enter Tryz.func34, Tryz.ntmps34
  go_wp2_with (go_at_call 53; refine (primes_any _).mono ?_; rintro e w1 ⟨v, rfl, hown, hb1⟩)
  have hr0 : RowIs w1 w.heap.size 78 72 (rt 0 0) := RowIs.below (RowIs.of (heap_alloc2_old _ _ _) zc30) hb1 (by simp; omega)
  have hr1 : RowIs w1 (w.heap.size + 1) 78 72 (rt 0 0) := RowIs.below (RowIs.of (heap_alloc2_new _ _ _) zc30) hb1 (by simp)
  have hbw : Below w.heap.size w w1 := (((Below.refl _ _).alloc (Nat.le_refl _) _).alloc (by simp) _).trans (hb1.mono (by simp; omega))
  have hbs : w.heap.size + 2 ≤ w1.heap.size := by have := hb1.size; simpa using this
  obtain ⟨ao, cap, rfl, hcl⟩ := own_view hown
  obtain ⟨gl, rfl, _⟩ := hcl 0 (by omega)
  have hgl := hown.lt gl rfl
  have hpc : PC w1 gl := ⟨hgl.2, fun i hi => own_get hown hi⟩
  have hgl2 : w.heap.size + 2 ≤ gl := by have := hgl.1; simpa using this
  clear hcl hb1 hgl hown
  go_loopw [3] (fun i wr => ∃ k : Nat, k ≤ 64 ∧ i = .int .i64 k ∧ RowIs wr (w.heap.size + 1) 78 72 (rt k 0) ∧ RowIs wr w.heap.size 78 72 (rt 0 0) ∧ PC wr gl ∧ Below w.heap.size w wr)
    (fun i _ => 64 - (intOf i).toNat)
  case atStart => exact ⟨0, by omega, rfl, hr1, hr0, hpc, hbw⟩
  case round =>
    clear hr1 hr0 hpc hbw hbs
    obtain ⟨k, hk, rfl, hr1, hr0, hpc, hbl⟩ := hrel
    by_cases hlt : k < 64
    · have cp := hpc.2 k hlt
      have d1 : ∀ wx, Below wr.heap.size wr wx → wx.cell? ⟨w.heap.size + 1, 8 + k, none⟩ = some (rt k 0 (8 + k)) ∧ wx.frozen? ⟨w.heap.size + 1, 8 + k, none⟩ = false := fun wx hx => ⟨(hr1.below hx hr1.lt).cell (by omega), (hr1.below hx hr1.lt).free _⟩
      have D1 : Hid (∀ wx, Below wr.heap.size wr wx → wx.cell? ⟨w.heap.size + 1, 8 + k, none⟩ = some (rt k 0 (8 + k)) ∧ wx.frozen? ⟨w.heap.size + 1, 8 + k, none⟩ = false) := d1
      clear d1
      go_wp2_with (go_at_call 54; refine (part_any (P k) 3 (by omega) _).mono ?_; rintro e w2 ⟨rfl, hb2⟩; obtain ⟨q1, q2⟩ := D1.out w2 hb2)
      go_roundw
      case rel => exact ⟨k + 1, by omega, by go_num, rt_rel1 (hr1.below hb2 hr1.lt), (hr0.below hb2 hr0.lt).setOther (by show w.heap.size + 1 ≠ w.heap.size; omega) _, (hpc.below hb2).set (by show w.heap.size + 1 ≠ gl; omega) _, (hbl.trans (hb2.mono hbl.size)).setCell (by show w.heap.size ≤ w.heap.size + 1; omega) _⟩
      case measure => simp [intOf]; omega
    · obtain rfl : k = 64 := by omega
      go_wp2
      go_loopw [4] (fun i wr => ∃ k : Nat, k ≤ 8 ∧ i = .int .i64 k ∧ RowIs wr (w.heap.size + 1) 78 72 (rt 64 k) ∧ RowIs wr w.heap.size 78 72 (rt 0 0) ∧ PC wr gl ∧ Below w.heap.size w wr)
        (fun i _ => 8 - (intOf i).toNat)
      case atStart => exact ⟨0, by omega, rfl, hr1, hr0, hpc, hbl⟩
      case round =>
        clear hr1 hr0 hpc hbl
        obtain ⟨k, hk, rfl, hr1, hr0, hpc, hbl⟩ := hrel
        by_cases hlt : k < 8
        · have cp := hpc.2 k (by omega)
          have d1 : ∀ wx, Below wr.heap.size wr wx → wx.cell? ⟨w.heap.size + 1, k, none⟩ = some (rt 64 k k) ∧ wx.frozen? ⟨w.heap.size + 1, k, none⟩ = false := fun wx hx => ⟨(hr1.below hx hr1.lt).cell (by omega), (hr1.below hx hr1.lt).free _⟩
          have D1 : Hid (∀ wx, Below wr.heap.size wr wx → wx.cell? ⟨w.heap.size + 1, k, none⟩ = some (rt 64 k k) ∧ wx.frozen? ⟨w.heap.size + 1, k, none⟩ = false) := d1
          clear d1
          go_wp2_with (go_at_call 54; refine (part_any (P k) 2 (by omega) _).mono ?_; rintro e w2 ⟨rfl, hb2⟩; obtain ⟨q1, q2⟩ := D1.out w2 hb2)
          go_roundw
          case rel =>
            have R1 := rt_rel2 (hr1.below hb2 hr1.lt)
            have R2 := (hr0.below hb2 hr0.lt).setOther (a := ⟨w.heap.size + 1, k, none⟩) (by show w.heap.size + 1 ≠ w.heap.size; omega) (.int .u32 (ptF (P k) 2 37 % 4294967296))
            have R3 := (hpc.below hb2).set (a := ⟨w.heap.size + 1, k, none⟩) (by show w.heap.size + 1 ≠ gl; omega) (.int .u32 (ptF (P k) 2 37 % 4294967296))
            have R4 := (hbl.trans (hb2.mono hbl.size)).setCell (p := ⟨w.heap.size + 1, k, none⟩) (by show w.heap.size ≤ w.heap.size + 1; omega) (.int .u32 (ptF (P k) 2 37 % 4294967296))
            (repeat apply Exists.intro)
            exact ⟨⟨k + 1, by omega, by go_num, R1, R2, R3, R4⟩, rfl⟩
          case measure => simp [intOf]; omega
        · obtain rfl : k = 8 := by omega
          go_wp2_with (first | (refine wpList_load_row rfl 78 (.tmp 1) rfl (w.heap.size + 1) rfl _ _ (0, 0) _ hr1 Tryz.underlying78 rfl (by rw [rowOf_size]; exact info30) ?_) | (refine wpList_store_row rfl 78 (.tmp 0) (.tmp 30) rfl w.heap.size _ rfl rfl _ _ hr0 (by rw [rowOf_size]; exact info30) (by rw [rowOf_size, rowOf_size]) (ints_one _ _ _) ?_))
          exact bodyPost_ret (v := .agg (rowOf 72 (rt 64 8))) (results_cell_row Tryz.results34 _ _ w.heap.size 78 _ (0, 0) _ rfl (hr0.setRow _) Tryz.underlying78 rfl (by rw [rowOf_size]; exact info30)) rfl ⟨rfl, below_setRow' hbl (Nat.le_refl _) _⟩
end Go.Proofs.YtcjohccaigflgaaGreatDoor

import Derived.Test.YtgccjefbedpmpaaGreatDoorGRSum
import Derived.Test.YtgccjefbedpmpaaGreatDoorGSum
import Derived.Test.YtgccjefbedpmpaaGreatDoorGLent
namespace Go.Proofs.YtgccjefbedpmpaaGreatDoor
open Go.RowKit
theorem rnd_congr {k x : Int} {s s' : Nat → Int} (h : ∀ j, j < 8 → s j = s' j) (j : Nat) : rnd k x s j = rnd k x s' j := by
  have h0 := h 0 (by decide); have h1 := h 1 (by decide); have h2 := h 2 (by decide); have h3 := h 3 (by decide)
  have h4 := h 4 (by decide); have h5 := h 5 (by decide); have h6 := h 6 (by decide); have h7 := h 7 (by decide)
  match j with
  | 0 => simp only [rnd, h0, h1, h2, h4, h5, h6, h7]
  | 1 => exact h0
  | 2 => exact h1
  | 3 => exact h2
  | 4 => simp only [rnd, h3, h4, h5, h6, h7]
  | 5 => exact h4
  | 6 => exact h5
  | _ + 7 => exact h6
theorem stt_congr {K K' X X' : Nat → Int} {s s' : Nat → Int} (n : Nat) (hK : ∀ j, j < n → K j = K' j) (hX : ∀ j, j < n → X j = X' j) (h : ∀ j, j < 8 → s j = s' j) : ∀ j, j < 8 → stt K X s n j = stt K' X' s' n j := by
  induction n with
  | zero => exact h
  | succ n ih =>
    intro j _
    rw [stt, stt, hK n (by omega), hX n (by omega)]
    exact rnd_congr (ih (fun j hj => hK j (by omega)) (fun j hj => hX j (by omega))) j
theorem blk_congr {K K' X X' : Nat → Int} {s s' : Nat → Int} (hK : ∀ j, j < 64 → K j = K' j) (hX : ∀ j, X j = X' j) (h : ∀ j, j < 8 → s j = s' j) : ∀ j, j < 8 → blk K X s j = blk K' X' s' j := fun j hj => by
  unfold blk
  rw [stt_congr 64 hK (fun j _ => hX j) h j hj, h j hj]
theorem blks_congr {K K' m m' s s' : Nat → Int} (n : Nat) (hK : ∀ j, j < 64 → K j = K' j) (hm : ∀ i, i < 64 * n → m i = m' i) (h : ∀ j, j < 8 → s j = s' j) : ∀ j, j < 8 → blks K m s n j = blks K' m' s' n j := by
  induction n with
  | zero => exact h
  | succ n ih => exact blk_congr hK (sch_congr fun i hi => hm _ (by omega)) (ih fun i hi => hm i (by omega))
theorem blks_add (K m s : Nat → Int) (a b : Nat) : blks K m s (a + b) = blks K (fun i => m (64 * a + i)) (blks K m s a) b := by
  induction b with
  | zero => rfl
  | succ b ih =>
    rw [← Nat.add_assoc, blks, blks, ih]
    have e : (fun i => m (64 * (a + b) + i)) = fun i => m (64 * a + (64 * b + i)) := by funext i; congr 1; omega
    rw [e]
/-- The bytes, as numbers. -/
def dl (s : ByteArray) : List Int := s.data.toList.map fun b => (b.toNat : Int)
theorem mB_dl (s : ByteArray) (i : Nat) : mB s i = (dl s)[i]?.getD 0 := by
  unfold mB dl
  rw [List.getElem?_map]
  cases s.data.toList[i]? <;> rfl
theorem dl_length (s : ByteArray) : (dl s).length = s.size := by simp [dl]
theorem dl_append (a b : ByteArray) : dl (a ++ b) = dl a ++ dl b := by
  unfold dl
  rw [ByteArray.data_append, Array.toList_append, List.map_append]
theorem dl_one (x : Int) (h : 0 ≤ x ∧ x < 256) : dl (strOfNums [x]) = [x] := by
  have : (x.toNat % 256 : Nat) = x.toNat := by omega
  simp [dl, strOfNums, UInt8.toNat_ofNat', this]
  omega
theorem dl_padZ (s : ByteArray) (z : Nat) : dl (padZ s z) = pre (dl s) z := by
  induction z with
  | zero => rw [padZ, dl_append]; simp [pre, dl]
  | succ z ih => rw [padZ, dl_append, ih]; simp [pre, dl, List.replicate_succ']
theorem dl_padN (P : ByteArray) (n : Int) (k : Nat) : dl (padN P n k) = dl P ++ be8 n k := by
  induction k with
  | zero => simp [padN, be8]
  | succ k ih =>
    rw [padN, dl_append, ih, dl_one _ (by omega), List.append_assoc]
    simp [be8, List.range_succ]
theorem dl_padM {s : ByteArray} {q r : Nat} (hs : s.size = 64 * q + r) : dl (padM s) = (dl s).take (64 * q) ++ tailL (mB s) q r := by
  have hz : zer s.size = zer r := by unfold zer; rw [hs]; omega
  have hd : (List.range r).map (fun i => mB s (64 * q + i)) = (dl s).drop (64 * q) := by
    apply List.ext_getElem?
    intro i
    by_cases hi : i < r
    · have hl : 64 * q + i < (dl s).length := by rw [dl_length]; omega
      rw [List.getElem?_drop, List.getElem?_map, List.getElem?_range hi, List.getElem?_eq_getElem hl]
      simp [mB_dl, hl]
    · rw [List.getElem?_eq_none (by simp; omega), List.getElem?_eq_none (by simp [dl_length]; omega)]
  unfold padM tailL
  rw [dl_padN, dl_padZ, hd, hz, hs]
  unfold pre
  rw [← List.append_assoc, ← List.append_assoc, ← List.append_assoc, List.take_append_drop]
theorem padM_tail {s : ByteArray} {q r : Nat} (hs : s.size = 64 * q + r) (i : Nat) : mB (padM s) (64 * q + i) = (tailL (mB s) q r).getD i 0 := by
  have hl : ((dl s).take (64 * q)).length = 64 * q := by rw [List.length_take, dl_length]; omega
  rw [mB_dl, dl_padM hs, List.getElem?_append_right (by omega), hl, show 64 * q + i - 64 * q = i by omega, List.getD_eq_getElem?_getD]
theorem padM_head {s : ByteArray} {q r : Nat} (hs : s.size = 64 * q + r) {i : Nat} (hi : i < 64 * q) : mB (padM s) i = mB s i := by
  have hl : ((dl s).take (64 * q)).length = 64 * q := by rw [List.length_take, dl_length]; omega
  rw [mB_dl, mB_dl, dl_padM hs, List.getElem?_append_left (by omega), List.getElem?_take_of_lt hi]
/-- The program's digest is the document's. -/
theorem sum_same {s : ByteArray} {q r : Nat} (hs : s.size = 64 * q + r) {K : Nat → Int} (hK : ∀ j, j < 64 → K j = KK j) : ∀ n, n < 32 → outB (shaOf K (mB s) q r) n = outB (blks KK (mB (padM s)) RV (nblk s.size)) n := by
  intro n hn
  have hb : nblk s.size = q + nbk r := by
    have hz : zer s.size = zer r := by unfold zer; rw [hs]; omega
    have := nbk_len r
    unfold nblk; rw [hz, hs]; omega
  unfold outB
  rw [hb, blks_add]
  unfold shaOf
  have h0 : ∀ j, j < 8 → H0 j = RV j := fun j hj => by unfold RV; rw [if_pos hj]
  have h1 := blks_congr q hK (fun i hi => (padM_head hs (q := q) (r := r) hi).symm) h0
  rw [blks_congr (nbk r) hK (fun i _ => (padM_tail hs i).symm) h1 (n / 4) (by omega)]
end Go.Proofs.YtgccjefbedpmpaaGreatDoor
namespace Go.Proofs.YtgccjefbedpmpaaGreatDoor
open Go.RowKit
set_option maxRecDepth 100000 in
theorem ksum_any (b off cap q r : Nat) (K m : Nat → Int) (w : World) (hg : 11 < w.heap.size) (hK : ∀ j, j < 64 → w.cell? ⟨11, j, none⟩ = some (.int .u32 (K j)))
    (hm : ∀ i, 0 ≤ m i ∧ m i ≤ 255) (hcell : ∀ i, i < 64 * q + r → w.cell? ⟨b, off + i, none⟩ = some (.int .u8 (m i))) (hb : b < w.heap.size) (hr : r < 64) (hn : 64 * q + r ≤ 140737488355328) (hcap : 64 * q + r ≤ cap) (hne : ¬ cap = 64 * q) :
   Calls Tryz.prog 68 #[.slice (some ⟨b, off, none⟩) (64 * q + r) cap] w fun e w' => e = .returned (.agg (rowOf 32 fun n => .int .u8 (outB (shaOf K m q r) n))) ∧ Below w.heap.size w w' := by
  have hc : ∀ W, Below w.heap.size w W → Calls Tryz.prog 117 #[.slice (some ⟨b, off, none⟩) (64 * q + r) cap] W fun e w' => e = .returned (.agg (rowOf 32 fun n => .int .u8 (outB (shaOf K m q r) n))) ∧ Below W.heap.size W w' := fun W hW =>
    sum_ne b off cap q r K m W (Nat.lt_of_lt_of_le hg hW.size) (fun j hj => (hW.cell hg).trans (hK j hj)) hm (fun i hi => (hW.cell hb).trans (hcell i hi)) (Nat.lt_of_lt_of_le hb hW.size) hr hn hcap hne
  have Hc : Hid (∀ W, Below w.heap.size w W → Calls Tryz.prog 117 #[.slice (some ⟨b, off, none⟩) (64 * q + r) cap] W fun e w' => e = .returned (.agg (rowOf 32 fun n => .int .u8 (outB (shaOf K m q r) n))) ∧ Below W.heap.size W w') := hc
  clear hcell hK hm hc
  have hb0 : Below w.heap.size w (w.alloc (.cells (rowOf 32 fun _ => .int .u8 0) 137)) := (Below.refl _ _).alloc (Nat.le_refl _) _
  have hr0 := RowIs.new w 137 32 fun _ => .int .u8 0
  go_enter Tryz.func68, Tryz.ntmps68
  go_wp2_with (first | (go_at_call 117; refine (Hc.out _ hb0).mono ?_; rintro e w7 ⟨rfl, hb7⟩; have hr07 := hr0.below hb7 hr0.lt) | (refine wpList_store_row rfl 137 (.tmp 2) (.tmp 4) rfl w.heap.size _ rfl rfl _ _ hr07 (by rw [rowOf_size]; exact info90) (by rw [rowOf_size, rowOf_size]) (ints_one _ _ _) ?_))
  exact bodyPost_ret (v := .agg (rowOf 32 fun n => .int .u8 (outB (shaOf K m q r) n))) (results_cell_row Tryz.results68 _ _ w.heap.size 137 _ (0, 0) _ rfl (hr07.setRow _) Tryz.underlying137 rfl (by rw [rowOf_size]; exact info90)) rfl ⟨rfl, below_setRow' (hb0.trans (hb7.mono hb0.size)) (Nat.le_refl _) _⟩
end Go.Proofs.YtgccjefbedpmpaaGreatDoor
namespace Go.Proofs.YtgccjefbedpmpaaGreatDoor
open Go.RowKit
/-- The n-th byte of the digest of s. -/
def dig (s : ByteArray) (n : Nat) : Int := outB (blks KK (mB (padM s)) RV (nblk s.size)) n
theorem ksumS (s : ByteArray) (hs : s.size ≤ 140737488351232) (g : Nat) (w : World) (hg : 11 < w.heap.size) (hK : ∀ j, j < 64 → w.cell? ⟨11, j, none⟩ = some (.int .u32 (KK j))) (hL : RowIs w g 5 (s.size + 8) (lentC s (s.size + 8))) :
    Calls Tryz.prog 68 #[.slice (some ⟨g, 0, none⟩) s.size (s.size + 8)] w fun e w' => e = .returned (.agg (rowOf 32 fun n => .int .u8 (dig s n))) ∧ Below w.heap.size w w' := by
  have e : s.size = 64 * (s.size / 64) + s.size % 64 := by omega
  have h := ksum_any g 0 (s.size + 8) (s.size / 64) (s.size % 64) KK (mB s) w hg hK (fun i => by unfold mB; have := (s.data.toList[i]?.getD 0).toNat_lt; omega) (fun i hi => by
    rw [Nat.zero_add, hL.cell (by omega)]; unfold lentC; rw [if_pos (by omega)]; rfl) hL.lt (by omega) (by omega) (by omega) (by omega)
  rw [← e] at h
  refine h.mono ?_
  rintro x w' ⟨rfl, hb⟩
  exact ⟨by rw [rowOf_congr fun j hj => by rw [sum_same e (fun _ _ => rfl) j hj]]; rfl, hb⟩
end Go.Proofs.YtgccjefbedpmpaaGreatDoor

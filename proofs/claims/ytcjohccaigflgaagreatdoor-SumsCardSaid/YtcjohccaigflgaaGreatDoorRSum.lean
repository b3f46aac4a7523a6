import Derived.Test.YtcjohccaigflgaaGreatDoorBlock
import Derived.Lib.Strings
import Derived.Deep.AppendLies
namespace Go.Proofs.YtcjohccaigflgaaGreatDoor
open Go.RowKit
def szOf : Value → Nat
  | .string b => b.size
  | _ => 0
def padZ (s : ByteArray) : Nat → ByteArray
  | 0 => s ++ ⟨#[128]⟩
  | z + 1 => padZ s z ++ ⟨#[0]⟩
theorem padZ_size (s : ByteArray) (z : Nat) : (padZ s z).size = s.size + 1 + z := by
  induction z with
  | zero => rw [padZ, ByteArray.size_append]; rfl
  | succ z ih => rw [padZ, ByteArray.size_append, ih]; rfl
theorem conv_one (v : Int) (W : World) : (convert 59 9 (.slice (some ⟨W.heap.size, 0, none⟩) 1 1)).run Tryz.prog (W.alloc (.cells #[.int .u8 v] 5)) = .ok (.string (strOfNums [v])) (W.alloc (.cells #[.int .u8 v] 5)) :=
  run_convert_bytes_arg _ 59 5 Tryz.underlying59 Tryz.underlying5 W.heap.size 0 1 1 [v] rfl (fun i hi => by
    obtain rfl : i = 0 := by omega
    rw [cell_of_row _ _ _ _ _ _ (heap_alloc_new _ _)]; rfl) _ Tryz.underlying9
def padN (P : ByteArray) (n : Int) : Nat → ByteArray
  | 0 => P
  | k + 1 => padN P n k ++ strOfNums [n / 2 ^ (56 - 8 * k) % 256]
theorem padN_size (P : ByteArray) (n : Int) (k : Nat) : (padN P n k).size = P.size + k := by
  induction k with
  | zero => rfl
  | succ k ih => rw [padN, ByteArray.size_append, ih, strOfNums_size]; rfl
theorem RV8 : (fun k => RV (8 + k)) = KK := by
  funext k; unfold RV; rw [if_neg (by omega)]; congr 1; omega
theorem RV_w (j : Nat) : W32 (RV j) := by unfold RV; split; exact H0_w j; exact KK_w _
theorem block_KK (s : Nat → Int) (m : ByteArray) (hm : m.size = 64) (hsw : ∀ j, W32 (s j)) (w : World) :
   Calls Tryz.prog 167 #[.agg (rowOf 72 fun j => .int .u32 (RV j)), .agg #[.int .u32 (s 0), .int .u32 (s 1), .int .u32 (s 2), .int .u32 (s 3), .int .u32 (s 4), .int .u32 (s 5), .int .u32 (s 6), .int .u32 (s 7)], .string m] w fun e w' => e = .returned (.agg #[.int .u32 (blk KK (sch (mB m)) s 0), .int .u32 (blk KK (sch (mB m)) s 1), .int .u32 (blk KK (sch (mB m)) s 2), .int .u32 (blk KK (sch (mB m)) s 3), .int .u32 (blk KK (sch (mB m)) s 4), .int .u32 (blk KK (sch (mB m)) s 5), .int .u32 (blk KK (sch (mB m)) s 6), .int .u32 (blk KK (sch (mB m)) s 7)]) ∧ Below w.heap.size w w' := by
  have h := block_any s RV m hm hsw w
  rw [show (fun k => RV (8 + k)) = KK from RV8] at h
  exact h
theorem range72 {w : World} {g : Nat} (h : RowIs w g 78 72 (fun j => .int .u32 (RV j))) : w.rangeAt g 0 (rowOf 72 fun j => .int .u32 (RV j)).toList := by
  intro j v hj
  rw [Nat.zero_add, cell_of_row _ _ _ _ _ _ h, ← Array.getElem?_toList]; exact hj
theorem sch_congr {m m' : Nat → Int} (h : ∀ i, i < 64 → m i = m' i) (t : Nat) : sch m t = sch m' t := by
  induction t using Nat.strongRecOn with
  | _ t ih =>
    by_cases ht : t < 16
    · rw [sch_lt m ht, sch_lt m' ht]; unfold wd0
      rw [h (4 * t) (by omega), h (4 * t + 1) (by omega), h (4 * t + 2) (by omega), h (4 * t + 3) (by omega)]
    · rw [sch_ge m (by omega), sch_ge m' (by omega), ih (t - 2) (by omega), ih (t - 7) (by omega), ih (t - 15) (by omega), ih (t - 16) (by omega)]
theorem mB_extract (M : ByteArray) (a i : Nat) (hi : i < 64) : mB (M.extract a (a + 64)) i = mB M (a + i) := by
  unfold mB
  rw [Lib.extract_data, List.getElem?_take_of_lt (by omega), List.getElem?_drop]
theorem sch_extract (M : ByteArray) (k : Nat) : sch (mB (M.extract (64 * k) (64 * k + 64))) = sch fun i => mB M (64 * k + i) := by
  funext t; exact sch_congr (fun i hi => mB_extract M (64 * k) i hi) t
theorem rsum_rel {w : World} {g k : Nat} {M : ByteArray} {st : Nat → Int} (hst : blks KK (mB M) RV k = st) (h : RowIs w g 75 8 (fun j => .int .u32 (st j))) :
    RowIs ((((((((w.setCell ⟨g, 0, none⟩ (.int .u32 (blk KK (sch (mB (M.extract (64 * k) (64 * k + 64)))) st 0))).setCell ⟨g, 1, none⟩ (.int .u32 (blk KK (sch (mB (M.extract (64 * k) (64 * k + 64)))) st 1))).setCell ⟨g, 2, none⟩ (.int .u32 (blk KK (sch (mB (M.extract (64 * k) (64 * k + 64)))) st 2))).setCell ⟨g, 3, none⟩ (.int .u32 (blk KK (sch (mB (M.extract (64 * k) (64 * k + 64)))) st 3))).setCell ⟨g, 4, none⟩ (.int .u32 (blk KK (sch (mB (M.extract (64 * k) (64 * k + 64)))) st 4))).setCell ⟨g, 5, none⟩ (.int .u32 (blk KK (sch (mB (M.extract (64 * k) (64 * k + 64)))) st 5))).setCell ⟨g, 6, none⟩ (.int .u32 (blk KK (sch (mB (M.extract (64 * k) (64 * k + 64)))) st 6))).setCell ⟨g, 7, none⟩ (.int .u32 (blk KK (sch (mB (M.extract (64 * k) (64 * k + 64)))) st 7))) g 75 8 (fun j => .int .u32 (blks KK (mB M) RV (k + 1) j)) := by
  subst hst
  rw [sch_extract]
  exact h.set8 (fun j => .int .u32 (blks KK (mB M) RV (k + 1) j))
def outL (h : Nat → Int) (k : Nat) : List Int := (List.range k).map (outB h)
theorem outL_four (h : Nat → Int) (k : Nat) : outL h (4 * (k + 1)) = outL h (4 * k) ++ [h k / 16777216 % 256, h k / 65536 % 256, h k / 256 % 256, h k % 256] := by
  have e : ∀ j, j < 4 → outB h (4 * k + j) = h k / 2 ^ (24 - 8 * j) % 256 := fun j hj => by
    unfold outB; rw [show (4 * k + j) / 4 = k by omega, show (4 * k + j) % 4 = j by omega]
  have e0 := e 0 (by omega)
  have e1 := e 1 (by omega)
  have e2 := e 2 (by omega)
  have e3 := e 3 (by omega)
  simp only [Nat.add_zero] at e0
  unfold outL
  rw [show 4 * (k + 1) = 4 * k + 1 + 1 + 1 + 1 by omega, List.range_succ, List.range_succ, List.range_succ, List.range_succ]
  simp only [List.map_append, List.map_cons, List.map_nil, List.append_assoc, List.cons_append, List.nil_append]
  rw [e0, show 4 * k + 1 + 1 = 4 * k + 2 by omega, show 4 * k + 2 + 1 = 4 * k + 3 by omega, e1, e2, e3]
  simp
def padM (s : ByteArray) : ByteArray := padN (padZ s (zer s.size)) ((s.size : Int) * 8) 8
def nblk (S : Nat) : Nat := (S + 1 + zer S + 8) / 64
def rsumOf (s : ByteArray) : ByteArray := strOfNums (outL (blks KK (mB (padM s)) RV (nblk s.size)) 32)
set_option linter.unusedSimpArgs false in
set_option maxRecDepth 100000 in
set_option maxHeartbeats 1000000 in
theorem rsum_any (s : ByteArray) (hs : s.size ≤ 140737488355328) (w : World) :
   Calls Tryz.prog 99 #[.agg (rowOf 72 fun j => .int .u32 (RV j)), .string s] w fun e w' => e = .returned (.string (rsumOf s)) ∧ Below w.heap.size w w' := by
  obtain ⟨hZ1, hZ2, hZ3⟩ := zer_facts s.size
  have hadd := @run_string_add_sum Tryz.prog
  have hend : ∀ M n, padN (padZ s (zer s.size)) ((s.size : Int) * 8) 8 = M → (s.size + 1 + zer s.size + 8 = 64 * n) → rsumOf s = strOfNums (outL (blks KK (mB M) RV n) 32) := fun M n hM hn => by
    unfold rsumOf padM nblk; rw [hM, hn, Nat.mul_div_cancel_left _ (by omega)]
  have Hend : Hid (∀ M n, padN (padZ s (zer s.size)) ((s.size : Int) * 8) 8 = M → (s.size + 1 + zer s.size + 8 = 64 * n) → rsumOf s = strOfNums (outL (blks KK (mB M) RV n) 32)) := hend
  clear hend
  generalize hS : s.size = S at *
  generalize zer S = Z at *
  generalize hRS : rsumOf s = RS at *
  go_enter Tryz.func99, Tryz.ntmps99
  go_wp2
  go_loop [5] (fun v => ∃ z : Nat, z ≤ Z ∧ v = .string (padZ s z)) (fun v => S + 70 - szOf v)
  case atStart => exact ⟨0, Nat.zero_le _, rfl⟩
  case round =>
    obtain ⟨z, hz, rfl⟩ := hrel
    have hps : (padZ s z).size = S + 1 + z := by rw [padZ_size, hS]
    have hpe : padZ s z ++ ⟨#[0]⟩ = padZ s (z + 1) := rfl
    have hps2 : (padZ s (z + 1)).size = S + 1 + (z + 1) := by rw [padZ_size, hS]
    have HP : Hid ((padZ s (z + 1)).size = S + 1 + (z + 1)) := hps2
    clear hps2
    by_cases hlt : z < Z
    · go_wp2
      go_round
      case rel => exact ⟨z + 1, hlt, rfl⟩
      case measure => simp [szOf, hps, HP.out]; omega
    · obtain rfl : z = Z := by omega
      have hb : (((S : Int) + 1 + (z : Int)) % 64 != 56) = false := by simp; omega
      go_wp2
      generalize hP : padZ s z = P at hps
      have Hps : Hid (P.size = S + 1 + z) := hps
      have HPP : Hid (padZ s z = P) := hP
      clear hP hpe HP
      have hPs : P.size ≤ S + 1 + z := by omega
      have hPs2 : S + 1 + z ≤ P.size := by omega
      clear hps
      have hcv := conv_one
      go_loopw [5, 7] (fun v sh wr => ∃ k : Nat, k ≤ 8 ∧ sh = .int .i64 (56 - 8 * (k : Int)) ∧ v = .string (padN P (S * 8) k) ∧ RowIs wr w.heap.size 78 72 (fun j => .int .u32 (RV j)) ∧ Below w.heap.size w wr)
        (fun _ sh _ => (intOf sh + 8).toNat)
      case atStart => exact ⟨0, by omega, rfl, rfl, RowIs.new _ _ _ _, (Below.refl _ _).alloc (Nat.le_refl _) _⟩
      case round =>
        obtain ⟨k, hk, rfl, rfl, hR, hbl⟩ := hrel
        have hns : (padN P (S * 8) k).size ≤ P.size + 8 := by rw [padN_size]; omega
        by_cases hlt : k < 8
        · have hnext : padN P (S * 8) (k + 1) = padN P (S * 8) k ++ strOfNums [S * 8 / 2 ^ (56 - 8 * k) % 256] := rfl
          have Hn : Hid (padN P (S * 8) (k + 1) = padN P (S * 8) k ++ strOfNums [S * 8 / 2 ^ (56 - 8 * k) % 256]) := hnext
          have h1s := strOfNums_size [(S : Int) * 8 / 2 ^ (56 - 8 * k) % 256]
          clear hnext
          go_wp2
          go_roundw
          case rel => exact ⟨k + 1, hlt, by go_num, rfl, hR.alloc _, hbl.alloc hbl.size _⟩
          case measure => simp [intOf]; omega
        · obtain rfl : k = 8 := by omega
          clear hcv
          obtain ⟨n, hn⟩ : ∃ n, S + 1 + z + 8 = 64 * n := ⟨(S + 1 + z + 8) / 64, by omega⟩
          have hMs : (padN P (S * 8) 8).size = 64 * n := by rw [padN_size, Hps.out]; omega
          generalize hM : padN P (S * 8) 8 = M at hMs
          have HM : Hid (padN P (S * 8) 8 = M) := hM
          have HMs : Hid (M.size = 64 * n) := hMs
          have hM1 : M.size ≤ 64 * n := by omega
          have hM2 : 64 * n ≤ M.size := by omega
          have Hn : Hid (S + 1 + z + 8 = 64 * n) := hn
          have hn1 : 64 * n ≤ S + 80 := by omega
          clear hM hMs hn hns hZ1 hZ2
          have c0 := hR.cell (show 0 < 72 by omega)
          have c1 := hR.cell (show 1 < 72 by omega)
          have c2 := hR.cell (show 2 < 72 by omega)
          have c3 := hR.cell (show 3 < 72 by omega)
          have c4 := hR.cell (show 4 < 72 by omega)
          have c5 := hR.cell (show 5 < 72 by omega)
          have c6 := hR.cell (show 6 < 72 by omega)
          have c7 := hR.cell (show 7 < 72 by omega)
          obtain ⟨wb, rfl⟩ : ∃ x, x = wr := ⟨_, rfl⟩
          go_wp2
          clear c0 c1 c2 c3 c4 c5 c6 c7
          go_loopw [9] (fun i wr => ∃ k : Nat, k ≤ n ∧ i = .int .i64 ((64 * k : Nat) : Int) ∧ RowIs wr wb.heap.size 75 8 (fun j => .int .u32 (blks KK (mB M) RV k j)) ∧ Below wb.heap.size wb wr)
            (fun i _ => 64 * n - (intOf i).toNat)
          case atStart => exact ⟨0, by omega, rfl, RowIs.last rfl rfl, (Below.refl _ _).alloc (Nat.le_refl _) _⟩
          case round =>
            obtain ⟨k, hk, rfl, hr, hb2⟩ := hrel
            by_cases hlt : k < n
            · have hR2 := hR.below hb2 hR.lt
              have hgl := hr.lt
              have sw := blks_w KK (mB M) RV_w k
              generalize hst : blks KK (mB M) RV k = st at hr sw
              have Hst : Hid (blks KK (mB M) RV k = st) := hst
              clear hst
              have c0 := hr.cell (show 0 < 8 by omega)
              have c1 := hr.cell (show 1 < 8 by omega)
              have c2 := hr.cell (show 2 < 8 by omega)
              have c3 := hr.cell (show 3 < 8 by omega)
              have c4 := hr.cell (show 4 < 8 by omega)
              have c5 := hr.cell (show 5 < 8 by omega)
              have c6 := hr.cell (show 6 < 8 by omega)
              have c7 := hr.cell (show 7 < 8 by omega)
              have fr := hr.free
              go_wp2
              have t7 : IntKind.i64.wrap (64 * (k : Int) + 64) = 64 * (k : Int) + 64 := i64w _ (by omega)
              have t4 : (0 : Int) ≤ 64 * (k : Int) := by omega
              have t5 : 64 * (k : Int) + 64 ≤ (M.size : Int) := by omega
              have t6 : 64 * (k : Int) ≤ 64 * (k : Int) + 64 := by omega
              have t1 : (64 * (k : Int)).toNat = 64 * k := by omega
              have t2 : (64 * (k : Int) + 64).toNat = 64 * k + 64 := by omega
              refine wp_region_held_drew (S := fun w' => w'.rangeAt w.heap.size 0 (rowOf 72 fun j => .int .u32 (RV j)).toList) (by kernel_rfl) (range72 hR2.drew) (fun hHeld => ?_)
              refine wpAnyH_take (i := 0) rfl (by kernel_rfl) (by kernel_rfl) (by kernel_rfl) (fun _ _ _ h => h) (yieldsIf_load_mid (by rfl) 78 (.tmp 2) rfl w.heap.size 0 rfl (rowOf 72 fun j => .int .u32 (RV j)).toList _ (fun _ h => h) Tryz.underlying78 rfl (by rw [Array.length_toList, rowOf_size]; exact info30)) hHeld ?_
              simp only [Act.put, List.setIfInBounds_toArray, List.set_cons_zero, List.set_cons_succ, Array.toArray_toList]
              refine wpAnyH_take (i := 2) rfl (by kernel_rfl) (by kernel_rfl) (by kernel_rfl) (fun _ _ _ h => h) (Or.inl ⟨by rfl, fun w _ => by go_simp; rfl⟩) hHeld ?_
              simp only [Act.put, List.setIfInBounds_toArray, List.set_cons_zero, List.set_cons_succ]
              refine wpAnyH_take (i := 3) rfl (by kernel_rfl) (by kernel_rfl) (by kernel_rfl) (fun _ _ _ h => h) (Or.inl ⟨by rfl, fun w _ => by go_simp; rfl⟩) hHeld ?_
              simp only [Act.put, List.setIfInBounds_toArray, List.set_cons_zero, List.set_cons_succ]
              refine wpAnyH_take (i := 4) rfl (by kernel_rfl) (by kernel_rfl) (by kernel_rfl) (fun _ _ _ h => h) (Or.inl ⟨by rfl, fun w _ => by go_simp; rfl⟩) hHeld ?_
              simp only [Act.put, List.setIfInBounds_toArray, List.set_cons_zero, List.set_cons_succ]
              refine wpAnyH_take (i := 5) rfl (by kernel_rfl) (by kernel_rfl) (by kernel_rfl) (fun _ _ _ h => h) (Or.inl ⟨by rfl, fun w _ => by go_simp; rfl⟩) hHeld ?_
              simp only [Act.put, List.setIfInBounds_toArray, List.set_cons_zero, List.set_cons_succ]
              refine wpAnyH_take (i := 6) rfl (by kernel_rfl) (by kernel_rfl) (by kernel_rfl) (fun _ _ _ h => h) (Or.inl ⟨by rfl, fun w _ => by go_simp; rfl⟩) hHeld ?_
              simp only [Act.put, List.setIfInBounds_toArray, List.set_cons_zero, List.set_cons_succ]
              refine wpAnyH_ready (rs := [1]) (by kernel_rfl) (by simp) (AllReadyH.cons rfl (fun K hK => ?_) AllReadyH.nil)
              go_simp
              refine hK.out _ _ hHeld (fun hHeld => ?_)
              clear hK K
              refine wpAnyH_ready (rs := [7]) (by kernel_rfl) (by simp) (AllReadyH.cons rfl (fun K hK => ?_) AllReadyH.nil)
              go_simp
              have hms : (M.extract (64 * k) (64 * k + 64)).size = 64 := by rw [ByteArray.size_extract]; omega
              refine (block_KK st _ hms sw _).mono ?_
              rintro e w1 ⟨rfl, hb1⟩
              have r1 := hr.drew.below hb1 hgl
              have k0 := r1.cell (show 0 < 8 by omega)
              have k1 := r1.cell (show 1 < 8 by omega)
              have k2 := r1.cell (show 2 < 8 by omega)
              have k3 := r1.cell (show 3 < 8 by omega)
              have k4 := r1.cell (show 4 < 8 by omega)
              have k5 := r1.cell (show 5 < 8 by omega)
              have k6 := r1.cell (show 6 < 8 by omega)
              have k7 := r1.cell (show 7 < 8 by omega)
              have f1 := r1.free
              refine hK.out _ _ (range72 (hR2.drew.below hb1 hR2.lt)) (fun hHeld => ?_)
              clear hK K
              refine wpAnyH_ready (rs := [8]) (by kernel_rfl) (by simp) (AllReadyH.cons rfl (fun K hK => ?_) AllReadyH.nil)
              go_simp
              have hbw1 := hb2.drew.trans (hb1.mono hb2.size)
              refine hK.out _ _ (range72 ((hR2.drew.below hb1 hR2.lt).set8Other (by have := hR.lt; omega) (fun j => .int .u32 (blk KK (sch (mB (M.extract (64 * k) (64 * k + 64)))) st j)))) (fun hHeld => ?_)
              clear hK K
              refine wpAnyH_done (by kernel_rfl) ?_ _
              go_wp2
              go_roundw
              case rel =>
                have R1 := rsum_rel Hst.out r1
                have R2 := below_set8 hbw1 (Nat.le_refl _) (fun j => .int .u32 (blk KK (sch (mB (M.extract (64 * k) (64 * k + 64)))) st j))
                (repeat apply Exists.intro)
                exact ⟨⟨k + 1, hlt, by go_num, R1, R2⟩, rfl⟩
              case measure => simp [intOf]; omega
            · obtain rfl : k = n := by omega
              obtain ⟨i0, hi, hz0, hz1, hz2⟩ := info_parts info5
              have hbs := hbl.size
              have hgl := hr.lt
              have hbq := hbl.trans (hb2.mono hbs)
              have shw := blks_w KK (mB M) RV_w k
              generalize hh : blks KK (mB M) RV k = h at hr shw
              have Hh : Hid (blks KK (mB M) RV k = h) := hh
              clear hh hR hbl hb2
              obtain ⟨wq, rfl⟩ : ∃ x, x = wr := ⟨_, rfl⟩
              go_wp2
              go_loopw [10, 11] (fun v i wr => ∃ k : Nat, k ≤ 8 ∧ i = .int .i64 k ∧ wr.ownsRow wq.heap.size 5 1 v (4 * k) (u8s (outL h (4 * k))) ∧ Below wq.heap.size wq wr)
                (fun _ i _ => 8 - (intOf i).toNat)
              case atStart => exact ⟨0, by omega, rfl, World.ownsRow_nil _ _ _ _, Below.refl _ _⟩
              case round =>
                obtain ⟨j, hj, rfl, hown, hb3⟩ := hrel
                by_cases hlt : j < 8
                · have c0 := (hr.below hb3 hgl).cell hlt
                  have lj : (j : Int) < 8 := by omega
                  obtain ⟨w0, w1⟩ := shw j
                  have hs3 := hb3.size
                  obtain ⟨ao, cp, rfl, _⟩ := own_view hown
                  clear shw
                  go_wp2
                  go_region_held3 (fun w' => w'.cell? ⟨wb.heap.size, j, none⟩ = some (.int .u32 (h j))) (go_keep) (((refine step_append_lies _ rfl (.tmp 56) (.tmp 76) 59 rfl wq.heap.size 5 i0 (.int .u8 0) 1 1 Tryz.underlying59 hi hz0 hz1 hz2 rfl (by decide) _ _ _ rfl (hown.alloc _) ⟨wr.heap.size, 0, none⟩ 4 4 (u8s [h j / 16777216 % 256, h j / 65536 % 256, h j / 256 % 256, h j % 256]) rfl rfl ?hn (u8s_one _) (by omega) (by unfold maxLen; omega) (by omega) ?hb _ rfl ?_); (case hn => exact World.news_of_block (heap_alloc_new wr _)); (case hb => show wq.heap.size ≤ (wr.alloc _).heap.size; simp; omega); (intro g2 cap2 w2 hown2 hgr2 hat2 hlt2; have hS2 : w2.cell? ⟨wb.heap.size, j, none⟩ = some (.int .u32 (h j)) := (hgr2.cell_far ⟨wb.heap.size, j, none⟩ (by show wb.heap.size < (wr.alloc _).heap.size; simp; omega) (fun e => by have := (hown.lt _ e.symm).1; simp at this; omega)).trans (((hr.below hb3 hgl).alloc _).cell hlt))))
                  have R1 : w2.ownsRow wq.heap.size 5 1 (.slice (some ⟨g2, 0, none⟩) (4 * j + 4) cap2) (4 * (j + 1)) (u8s (outL h (4 * (j + 1)))) := by rw [outL_four, u8s_append]; exact hown2
                  have R2 : Below wq.heap.size wq w2 := by
                    have q1 : ∀ m, Value.ownBlock (.slice ao (4 * j) cp) = some m → wq.heap.size ≤ m := fun m hm => (hown.lt m hm).1
                    first | exact (hb3.alloc hs3 _).grown hgr2 (by simp; omega) q1 | exact ((hb3.alloc hs3 _).drew).grown hgr2 (by simp; omega) q1 | exact ((hb3.drew).alloc hs3 _).grown hgr2 (by simp; omega) q1
                  go_wp2
                  go_roundw
                  case rel => first | exact ⟨j + 1, by omega, by go_num, R1, R2⟩ | ((repeat apply Exists.intro); exact ⟨⟨j + 1, by omega, by go_num, R1, R2⟩, rfl⟩)
                  case measure => simp [intOf]; omega
                · obtain rfl : j = 8 := by omega
                  obtain ⟨ao, cp, rfl, hcl⟩ := own_view hown
                  obtain ⟨g, rfl, _⟩ := hcl 0 (by omega)
                  have hcv2 : (convert 59 9 (.slice (some ⟨g, 0, none⟩) 32 cp)).run Tryz.prog wr = .ok (.string (strOfNums (outL h 32))) wr :=
                    run_convert_bytes_arg wr 59 5 Tryz.underlying59 Tryz.underlying5 g 0 32 cp (outL h 32) (by simp [outL]) (own_cells hown (by simp [outL])) _ Tryz.underlying9
                  clear hcl
                  go_wp2
                  go_ret
                  refine ⟨?_, hbq.trans (hb3.mono hbq.size)⟩
                  rw [Hend.out M k (by rw [HPP.out]; exact HM.out) Hn.out, Hh.out]; rfl
end Go.Proofs.YtcjohccaigflgaaGreatDoor

import Derived.Test.YtcjohccaigflgaaGreatDoorMem
import Derived.Deep.QuietTactic
import Derived.BigQuiet
namespace Go.Proofs.YtcjohccaigflgaaGreatDoor
open Go.RowKit
theorem madeCells_row (z : Value) (n : Nat) : madeCells #[z] n = rowOf n (fun _ => z) := by
  refine rowOf_ext (size_madeCells _ _) fun j hj => ?_
  rw [← Array.getElem?_toList, toList_madeCells_one]; simp [hj]
theorem make_row {t e : TypeId} {i : TypeInfo} {z : Value} (ht : Tryz.prog.underlying t = some (.slice e)) (hi : Tryz.prog.info? e = some i) (hz : i.zero = some z) (hs : i.size = 1) (hzc : z.cells = #[z]) (c : Int) (n : Nat) (hc : c = n) (hb : i.bytes * n ≤ 281474976710656) (hn : n ≤ 9223372036854775807) (w : World) :
    (Instr.makeSlice t (.int .i64 c) (.int .i64 c)).run Tryz.prog w = .ok (.slice (some ⟨w.heap.size, 0, none⟩) n n) (w.alloc (.cells (rowOf n fun _ => z) e)) := by
  subst hc
  have hb' : (i.bytes : Int) * (n : Int) ≤ 281474976710656 := by
    have h : ((i.bytes * n : Nat) : Int) ≤ 281474976710656 := by omega
    rwa [Int.natCast_mul] at h
  have := run_make (P := Tryz.prog) w t e i z ht hi hz .i64 .i64 (n : Int) (n : Int) (by omega) (by omega) hb' (by omega)
  rw [this, hs, hzc, Nat.mul_one, Int.toNat_natCast, madeCells_row]
/-- A list's numbers, as a row of words. -/
def u64c (l : List Int) (j : Nat) : Value := .int .u64 (l[j]?.getD 0)
theorem u64c_set (l : List Int) (k : Nat) (v : Int) (h : k < l.length) (j : Nat) : (if j = k then Value.int .u64 v else u64c l j) = u64c (l.set k v) j := by
  unfold u64c
  by_cases hj : j = k
  · subst hj; simp [h]
  · simp [hj, Ne.symm hj]
theorem info32 : (Tryz.prog.info? 41).map (fun i => (i.zero, i.size, i.bytes)) = some (some (.int .u64 0), 1, 8) := by kernel_rfl

/-- One step of the product: the word at a + b, and what is carried. -/
def vv (f av lb c : Int) : Int := IntKind.u64.wrap (IntKind.u64.wrap (f + IntKind.u64.wrap (av * lb)) + c)
def st1 (nx : List Int) (a b : Nat) (av lb c : Int) : List Int × Int :=
  (nx.set (a + b) (bits .and .u64 (vv (nx[a + b]?.getD 0) av lb c) 4294967295), vv (nx[a + b]?.getD 0) av lb c / 4294967296)
def inn (l : List Int) (av : Int) (a : Nat) (nx : List Int) : Nat → List Int × Int
  | 0 => (nx, 0)
  | b + 1 => st1 (inn l av a nx b).1 a b av (l[b]?.getD 0) (inn l av a nx b).2
def stA (l A nx : List Int) (a : Nat) : List Int :=
  (inn l (A[a]?.getD 0) a nx 2).1.set (a + 2) (IntKind.u64.wrap ((inn l (A[a]?.getD 0) a nx 2).1[a + 2]?.getD 0 + (inn l (A[a]?.getD 0) a nx 2).2))
def rowA (l A : List Int) (len : Nat) : Nat → List Int
  | 0 => List.replicate len 0
  | a + 1 => stA l A (rowA l A len a) a
def pw (l : List Int) : Nat → List Int
  | 0 => [1]
  | i + 1 => rowA l (pw l i) (1 + 2 * i + 2) (1 + 2 * i)
theorem inn_len (l : List Int) (av : Int) (a : Nat) (nx : List Int) (b : Nat) : (inn l av a nx b).1.length = nx.length := by
  induction b with
  | zero => rfl
  | succ b ih => simp [inn, st1, ih]
theorem rowA_len (l A : List Int) (len a : Nat) : (rowA l A len a).length = len := by
  induction a with
  | zero => simp [rowA]
  | succ a ih => simp [rowA, stA, inn_len, ih]
/-- The highest k words, put together. -/
def whl (A : List Int) (n : Nat) : Nat → Int
  | 0 => 0
  | k + 1 => bits .or .u64 (IntKind.u64.wrap (whl A n k * 4294967296)) (A[n - 1 - k]?.getD 0)
def lowHigh (x : Int) : List Int := [bits .and .u64 x 4294967295, x / 4294967296]
def lessF (x : Int) (n : Nat) (p : Int) : Bool := decide (whl (pw (lowHigh x) n) (1 + 2 * n) (1 + n) < p)
theorem u64_set {w : World} {g n : Nat} {l : List Int} (h : RowIs w g 41 n (u64c l)) (k : Nat) (v : Int) (hk : k < l.length) : RowIs (w.setCell ⟨g, k, none⟩ (.int .u64 v)) g 41 n (u64c (l.set k v)) :=
  (h.set k _).congr fun j _ => u64c_set l k v hk j
theorem RowIs.drewK {w : World} {g : Nat} {t : TypeId} {n : Nat} {f : Nat → Value} (h : RowIs w g t n f) (k : Nat) : RowIs (w.drewN k) g t n f := h
theorem Below.drewsK {B : Nat} {w w' : World} (h : Below B w w') (k : Nat) : Below B w (w'.drewN k) := ⟨h.os, h.tape, h.output, h.size, h.block⟩
set_option maxHeartbeats 2000000 in
theorem less_any (x p : Int) (n : Nat) (hn : n ≤ 10) (_hx : 0 ≤ x) (w : World) :
   Calls Tryz.prog 96 #[.int .u64 x, .int .i64 n, .int .u64 p] w fun e w' => e = .returned (.bool (lessF x n p)) ∧ Below w.heap.size w w' := by
  obtain ⟨i0, hi, hz0, hz1, hz2⟩ := info_parts info32
  go_enter Tryz.func96, Tryz.ntmps96
  go_wp2
  go_loopw [8, 9] (fun s i wr => ∃ k : Nat, k ≤ n ∧ i = .int .i64 k ∧ ∃ ga, s = .slice (some ⟨ga, 0, none⟩) (1 + 2 * k) (1 + 2 * k) ∧ RowIs wr ga 41 (1 + 2 * k) (u64c (pw (lowHigh x) k)) ∧ RowIs wr w.heap.size 41 2 (u64c (lowHigh x)) ∧ w.heap.size < ga ∧ Below w.heap.size w wr)
    (fun _ i _ => n - (intOf i).toNat)
  case atStart => exact ⟨0, Nat.zero_le _, rfl, _, rfl, RowIs.of (heap_alloc2_new _ _ _) rfl, RowIs.of (heap_alloc2_old _ _ _) rfl, by simp, ((Below.refl _ _).alloc (Nat.le_refl _) _).alloc (by simp) _⟩
  case round =>
    obtain ⟨k, hk, rfl, ga, rfl, hrA, hrl, hga, hbl⟩ := hrel
    obtain ⟨wa, rfl⟩ : ∃ x, x = wr := ⟨_, rfl⟩
    by_cases hlt : k < n
    · have hmk := make_row (t := 123) Tryz.underlying123 hi hz0 hz1 rfl (1 + 2 * (k : Int) + 2) (1 + 2 * k + 2) (by omega) (by rw [hz2]; omega) (by omega)
      generalize hA : pw (lowHigh x) k = A at hrA
      have HA : Hid (pw (lowHigh x) k = A) := hA
      generalize hl : lowHigh x = l at hrl
      have Hl : Hid (lowHigh x = l) := hl
      clear hA hl hi hz0 hz1 hz2
      have hgs := hrA.lt
      have hbs := hbl.size
      go_wp2
      go_loopw [11] (fun i wr2 => ∃ a : Nat, a ≤ 1 + 2 * k ∧ i = .int .i64 a ∧ RowIs wr2 wa.heap.size 41 (1 + 2 * k + 2) (u64c (rowA l A (1 + 2 * k + 2) a)) ∧ Below wa.heap.size wa wr2)
        (fun i _ => 1 + 2 * k - (intOf i).toNat)
      case atStart => exact ⟨0, by omega, rfl, RowIs.of (heap_last rfl) (by rw [rowA]; exact rowOf_congr fun j hj => by simp [u64c, hj]), (Below.refl _ _).alloc (Nat.le_refl _) _⟩
      case round =>
        obtain ⟨a, ha, rfl, hrn, hb2⟩ := hrel
        have hrA2 := hrA.below hb2 hrA.lt
        have hrl2 := hrl.below hb2 hrl.lt
        by_cases hla : a < 1 + 2 * k
        · generalize hN : rowA l A (1 + 2 * k + 2) a = N at hrn
          have HN : Hid (rowA l A (1 + 2 * k + 2) a = N) := hN
          have hNl : N.length = 1 + 2 * k + 2 := by rw [← hN]; exact rowA_len _ _ _ _
          have HNl : Hid (N.length = 1 + 2 * k + 2) := hNl
          clear hN hNl hmk
          have cA := hrA2.cell hla
          go_wp2
          go_loopw [12, 13] (fun c i wr3 => ∃ b : Nat, b ≤ 2 ∧ i = .int .i64 b ∧ c = .int .u64 (inn l (A[a]?.getD 0) a N b).2 ∧ RowIs wr3 wa.heap.size 41 (1 + 2 * k + 2) (u64c (inn l (A[a]?.getD 0) a N b).1) ∧ Below wa.heap.size wa wr3)
            (fun _ i _ => 2 - (intOf i).toNat)
          case atStart => exact ⟨0, by omega, rfl, rfl, hrn, hb2⟩
          case round =>
            clear hrn hb2 hrA2 hrl2 cA
            obtain ⟨b, hb, rfl, rfl, hrn, hb2⟩ := hrel
            have hrA2 := hrA.below hb2 hrA.lt
            have hrl2 := hrl.below hb2 hrl.lt
            by_cases hlb : b < 2
            · generalize hM : inn l (A[a]?.getD 0) a N b = M at hrn
              have HM : Hid (inn l (A[a]?.getD 0) a N b = M) := hM
              have cA := hrA2.cell hla
              have cl := hrl2.cell hlb
              have cn := hrn.cell (show a + b < 1 + 2 * k + 2 by omega)
              have fn := hrn.free (a + b)
              unfold u64c at cA cl cn
              have hMl : a + b < M.1.length := by rw [← hM, inn_len, HNl.out]; omega
              have HMl : Hid (a + b < M.1.length) := hMl
              clear hM hMl
              go_wp2
              go_quiet (fail)
              go_wp2
              go_roundw
              case rel =>
                have e1 : inn l (A[a]?.getD 0) a N (b + 1) = st1 M.1 a b (A[a]?.getD 0) (l[b]?.getD 0) M.2 := by rw [inn, HM.out]
                refine ⟨b + 1, by omega, by go_num, ?_, ?_, (Below.drewsK hb2 _).setCell (Nat.le_refl _) _⟩
                · rw [e1]; rfl
                · rw [e1]; exact u64_set (hrn.drewK _) _ _ HMl.out
              case measure => simp [intOf]; omega
            · obtain rfl : b = 2 := by omega
              generalize hM : inn l (A[a]?.getD 0) a N 2 = M at hrn
              have HM : Hid (inn l (A[a]?.getD 0) a N 2 = M) := hM
              have hMl : a + 2 < M.1.length := by rw [← hM, inn_len, HNl.out]; omega
              have HMl : Hid (a + 2 < M.1.length) := hMl
              have cn := hrn.cell (show a + 2 < 1 + 2 * k + 2 by omega)
              have fn := hrn.free (a + 2)
              unfold u64c at cn
              clear hM hMl
              go_wp2
              go_roundw
              case rel =>
                have e1 : rowA l A (1 + 2 * k + 2) (a + 1) = M.1.set (a + 2) (IntKind.u64.wrap (M.1[a + 2]?.getD 0 + M.2)) := by rw [rowA, HN.out, stA, HM.out]
                refine ⟨a + 1, by omega, by go_num, ?_, hb2.setCell (Nat.le_refl _) _⟩
                rw [e1]
                exact u64_set hrn _ _ HMl.out
              case measure => simp [intOf]; omega
        · obtain rfl : a = 1 + 2 * k := by omega
          go_wp2
          go_roundw
          case rel => exact ⟨k + 1, hlt, by go_num, _, rfl, by rw [pw, ← Hl.out, HA.out, Hl.out]; exact hrn, hrl2, by omega, hbl.trans (hb2.mono hbs)⟩
          case measure => simp [intOf]; omega
    · obtain rfl : k = n := by omega
      generalize hA : pw (lowHigh x) k = A at hrA
      have HA : Hid (pw (lowHigh x) k = A) := hA
      clear hA hi hz0 hz1 hz2
      go_wp2
      go_loopw [15, 16] (fun h i wr => ∃ m : Nat, m ≤ 1 + k ∧ i = .int .i64 (2 * (k : Int) - m) ∧ h = .int .u64 (whl A (1 + 2 * k) m) ∧ RowIs wr ga 41 (1 + 2 * k) (u64c A) ∧ Below w.heap.size w wr)
        (fun _ i _ => ((intOf i) + 1).toNat)
      case atStart => exact ⟨0, by omega, by go_num, rfl, hrA, hbl⟩
      case round =>
        clear hrA hbl
        obtain ⟨m, hm, rfl, rfl, hrA, hbl⟩ := hrel
        by_cases hlt : m < 1 + k
        · have cA := hrA.cell (show 2 * k - m < 1 + 2 * k by omega)
          unfold u64c at cA
          generalize hH : whl A (1 + 2 * k) m = h
          have HH : Hid (whl A (1 + 2 * k) m = h) := hH
          clear hH
          go_wp2
          go_roundw
          case rel => exact ⟨m + 1, by omega, by go_num, by rw [whl, HH.out, show 1 + 2 * k - 1 - m = 2 * k - m by omega], hrA, hbl⟩
          case measure => simp [intOf]; omega
        · obtain rfl : m = 1 + k := by omega
          go_wp2
          go_ret
          refine ⟨?_, hbl⟩
          rw [lessF, HA.out]; rfl
end Go.Proofs.YtcjohccaigflgaaGreatDoor


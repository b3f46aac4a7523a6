import Derived.Test.YtgccjefbedpmpaaGreatDoorZRRng
import Derived.Maps.AppendAt
import Derived.Test.YtgccjefbedpmpaaGreatDoorZRDig
import Derived.Test.YtgccjefbedpmpaaGreatDoorZFault
import Derived.Test.YtgccjefbedpmpaaGreatDoorGRightOp
import Derived.Test.YtgccjefbedpmpaaGreatDoorGApp
namespace Go.Proofs.YtgccjefbedpmpaaGreatDoor
open Go.RowKit
def mosts (k : Int) : List Int := [1048575, 1048575, 1073741823, 1099511627775] ++ if k = 1 then [1114111] else []
/-- The parts of an operation lie in block g. -/
def PartsAt (w : World) (g : Nat) (ms : List Int) : Prop := ∀ i (h : i < ms.length), (∃ s : ByteArray, w.cell? ⟨g, i * 2, none⟩ = some (.string s)) ∧ w.cell? ⟨g, i * 2 + 1, none⟩ = some (.int .u64 ms[i])
theorem infoPt : (Tryz.prog.info? 409).map (fun i => (i.zero, i.size, i.bytes)) = some (some (.agg #[.string ByteArray.empty, .int .u64 0]), 2, 24) := by kernel_rfl
theorem app_cell (W : World) (X Y Z : Array Value) (t : TypeId) (g : Nat) (hg : g = W.heap.size) (j : Nat) (v : Value) (h : (X ++ Y)[j]? = some v) : (W.alloc (.cells (X ++ (Y ++ Z)) t)).cell? ⟨g, j, none⟩ = some v := by
  subst hg
  rw [cell_of_row _ _ _ _ _ _ (heap_alloc_new W _), ← Array.append_assoc]
  have hj := (Array.getElem?_eq_some_iff.1 h).1
  rw [Array.getElem?_append_left hj]
  exact h
set_option maxRecDepth 100000 in
set_option maxHeartbeats 1000000 in
theorem opParts_any (k : Int) (w : World) : Calls Tryz.prog 318 #[.int .i64 k] w fun e w' => ∃ g cap, e = .returned (.slice (some ⟨g, 0, none⟩) (mosts k).length cap) ∧ w.heap.size ≤ g ∧ PartsAt w' g (mosts k) ∧ Below w.heap.size w w' := by
  by_cases hk : k = 1
  · subst hk
    go_enter Tryz.func318, Tryz.ntmps318
    go_wp2_with fail
    go_ret
    refine ⟨_, _, rfl, by omega, fun i hi => ?_, ?_⟩
    · match i, hi with
      | 0, _ => exact ⟨⟨_, app_cell _ _ _ _ _ _ (by simp) 0 _ rfl⟩, app_cell _ _ _ _ _ _ (by simp) 1 _ rfl⟩
      | 1, _ => exact ⟨⟨_, app_cell _ _ _ _ _ _ (by simp) 2 _ rfl⟩, app_cell _ _ _ _ _ _ (by simp) 3 _ rfl⟩
      | 2, _ => exact ⟨⟨_, app_cell _ _ _ _ _ _ (by simp) 4 _ rfl⟩, app_cell _ _ _ _ _ _ (by simp) 5 _ rfl⟩
      | 3, _ => exact ⟨⟨_, app_cell _ _ _ _ _ _ (by simp) 6 _ rfl⟩, app_cell _ _ _ _ _ _ (by simp) 7 _ rfl⟩
      | 4, _ => exact ⟨⟨_, app_cell _ _ _ _ _ _ (by simp) 8 _ rfl⟩, app_cell _ _ _ _ _ _ (by simp) 9 _ rfl⟩
    · exact ((((Below.refl _ _).alloc (Nat.le_refl _) _).alloc (by simp) _).alloc (by simp; omega) _).drew
  · have hk' : (k == 1) = false := by simpa using hk
    go_enter Tryz.func318, Tryz.ntmps318
    go_wp2_with fail
    go_ret
    have hm : mosts k = [1048575, 1048575, 1073741823, 1099511627775] := by unfold mosts; rw [if_neg hk]; rfl
    rw [hm]
    refine ⟨_, _, rfl, Nat.le_refl _, fun i hi => ?_, (Below.refl _ _).alloc (Nat.le_refl _) _⟩
    match i, hi with
    | 0, _ => exact ⟨⟨_, (cell_of_row _ _ _ _ _ _ (heap_alloc_new w _)).trans rfl⟩, (cell_of_row _ _ _ _ _ _ (heap_alloc_new w _)).trans rfl⟩
    | 1, _ => exact ⟨⟨_, (cell_of_row _ _ _ _ _ _ (heap_alloc_new w _)).trans rfl⟩, (cell_of_row _ _ _ _ _ _ (heap_alloc_new w _)).trans rfl⟩
    | 2, _ => exact ⟨⟨_, (cell_of_row _ _ _ _ _ _ (heap_alloc_new w _)).trans rfl⟩, (cell_of_row _ _ _ _ _ _ (heap_alloc_new w _)).trans rfl⟩
    | 3, _ => exact ⟨⟨_, (cell_of_row _ _ _ _ _ _ (heap_alloc_new w _)).trans rfl⟩, (cell_of_row _ _ _ _ _ _ (heap_alloc_new w _)).trans rfl⟩
end Go.Proofs.YtgccjefbedpmpaaGreatDoor
namespace Go.Proofs.YtgccjefbedpmpaaGreatDoor
open Go.RowKit
/-- Varints one behind the other, each with the most that it may be. -/
def vsP : List Int → List Int → Option (List Int × List Int)
  | [], l => some ([], l)
  | m :: ms, l => match vR m l with
    | none => none
    | some (x, l1) => match vsP ms l1 with
      | none => none
      | some (xs, l2) => some (x :: xs, l2)
def opOf (k : Int) (xs : List Int) : Opn := ⟨k, xs.getD 0 0, xs.getD 1 0, xs.getD 2 0, xs.getD 3 0, xs.getD 4 0⟩
theorem oP_vs (k : Int) (l : List Int) : oP (k :: l) = (vsP (mosts k) l).map fun x => (opOf k x.1, x.2) := by
  unfold oP mosts
  by_cases hk : k = 1
  · rw [if_pos hk]
    simp only [List.cons_append, List.nil_append, vsP]
    cases vR 1048575 l with
    | none => rfl
    | some a =>
      obtain ⟨x1, l1⟩ := a
      dsimp only
      cases vR 1048575 l1 with
      | none => rfl
      | some a =>
        obtain ⟨x2, l2⟩ := a
        dsimp only
        cases vR 1073741823 l2 with
        | none => rfl
        | some a =>
          obtain ⟨x3, l3⟩ := a
          dsimp only
          cases vR 1099511627775 l3 with
          | none => rfl
          | some a =>
            obtain ⟨x4, l4⟩ := a
            dsimp only
            rw [if_pos hk]
            cases vR 1114111 l4 with
            | none => rfl
            | some a => rfl
  · rw [if_neg hk]
    simp only [List.append_nil, vsP]
    cases vR 1048575 l with
    | none => rfl
    | some a =>
      obtain ⟨x1, l1⟩ := a
      dsimp only
      cases vR 1048575 l1 with
      | none => rfl
      | some a =>
        obtain ⟨x2, l2⟩ := a
        dsimp only
        cases vR 1073741823 l2 with
        | none => rfl
        | some a =>
          obtain ⟨x3, l3⟩ := a
          dsimp only
          cases vR 1099511627775 l3 with
          | none => rfl
          | some a =>
            obtain ⟨x4, l4⟩ := a
            dsimp only
            rw [if_neg hk]
            rfl
def gOp (o : Opn) (_ : World) (v : Value) : Prop := v = .tuple #[.agg #[.int .i64 o.kd, .int .u32 o.cl, .int .u32 o.ck, .int .u32 o.st, .int .u64 o.rf, .int .i32 o.ch], .nilIface]
def bOp (v : Value) : Prop := ∃ x, v = .tuple #[.agg #[.int .i64 0, .int .u32 0, .int .u32 0, .int .u32 0, .int .u64 0, .int .i32 0], x] ∧ Err x
theorem PartsAt.keep {w w' : World} {g : Nat} {ms : List Int} (h : PartsAt w g ms) (hb : ∀ i, w'.cell? ⟨g, i, none⟩ = w.cell? ⟨g, i, none⟩) : PartsAt w' g ms := fun i hi => by
  obtain ⟨⟨s, h1⟩, h2⟩ := h i hi
  exact ⟨⟨s, (hb _).trans h1⟩, (hb _).trans h2⟩
/-- The numbers read so far. -/
def nV (vs : List Int) (j : Nat) : Value := .int .u64 (vs.getD j 0)
theorem nV_set {vs : List Int} {i : Nat} (hi : vs.length = i) (x : Int) (j : Nat) : (if j = i then Value.int .u64 x else nV vs j) = nV (vs ++ [x]) j := by
  unfold nV
  by_cases h : j = i
  · subst h
    rw [if_pos rfl]
    simp [List.getD_eq_getElem?_getD, hi]
  · rw [if_neg h]
    by_cases h2 : j < vs.length
    · simp [List.getD_eq_getElem?_getD, List.getElem?_append_left h2]
    · have h3 : ¬ j < (vs ++ [x]).length := by rw [List.length_append, List.length_singleton]; omega
      rw [List.getD_eq_getElem?_getD, List.getD_eq_getElem?_getD, List.getElem?_eq_none (by omega), List.getElem?_eq_none (by omega)]
/-- What lies in memory while an operation is read. -/
structure OpS (w wr : World) (rb g pg : Nat) (M vs l1 : List Int) : Prop where
  res : RowIs wr w.heap.size 43 6 (op6 (.int .i64 0) (.int .u32 0) (.int .u32 0) (.int .u32 0) (.int .u64 0) (.int .i32 0))
  num : RowIs wr (w.heap.size + 1) 405 5 (nV vs)
  parts : PartsAt wr pg M
  plt : pg < wr.heap.size
  rd : ∃ off cap, Rd wr rb g off cap l1
  but : But (fun x => x = rb) w wr
theorem OpS.alloc {w wr : World} {rb g pg : Nat} {M vs l1 : List Int} (h : OpS w wr rb g pg M vs l1) (o : Obj) : OpS w (wr.alloc o) rb g pg M vs l1 := by
  have hb : Below wr.heap.size wr (wr.alloc o) := (Below.refl _ _).alloc (Nat.le_refl _) o
  obtain ⟨off, cap, hr⟩ := h.rd
  exact ⟨h.res.below hb h.res.lt, h.num.below hb h.num.lt, h.parts.keep fun _ => hb.cell h.plt, Nat.lt_of_lt_of_le h.plt hb.size, ⟨off, cap, hr.but hb⟩, h.but.alloc o⟩
theorem OpS.read {w wr w2 : World} {rb g pg off cap : Nat} {M vs l1 l2 : List Int} (h : OpS w wr rb g pg M vs l1) (hb : But (fun x => x = rb) wr w2) (hr : Rd w2 rb g off cap l2) (h1 : w.heap.size ≠ rb) (h2 : w.heap.size + 1 ≠ rb) (h3 : pg ≠ rb) : OpS w w2 rb g pg M vs l2 :=
  ⟨h.res.but hb h1, h.num.but hb h2, h.parts.keep fun _ => World.cell?_of_block (hb.block pg h.plt h3), Nat.lt_of_lt_of_le h.plt hb.size, ⟨off, cap, hr⟩, h.but.trans hb⟩
theorem OpS.push {w wr : World} {rb g pg : Nat} {M vs l1 : List Int} (h : OpS w wr rb g pg M vs l1) {i : Nat} (hi : vs.length = i) (x : Int) (h2 : w.heap.size + 1 ≠ rb) (h3 : w.heap.size + 1 ≠ g) (h4 : pg ≠ w.heap.size + 1) : OpS w (wr.setCell ⟨w.heap.size + 1, i, none⟩ (.int .u64 x)) rb g pg M (vs ++ [x]) l1 := by
  obtain ⟨off, cap, hr⟩ := h.rd
  exact ⟨h.res.far (by omega) i _, (h.num.set i _).congr fun j _ => nV_set hi x j, h.parts.keep fun _ => World.cell?_of_block (heap_setCell_other _ _ _ _ h4), by simpa [World.setCell] using h.plt, ⟨off, cap, hr.set h2 h3 i _⟩, h.but.setCell (p := ⟨w.heap.size + 1, i, none⟩) (Or.inr (Nat.le_succ _)) _⟩
theorem vsP_step {M l1 : List Int} {i : Nat} (h : i < M.length) : vsP (M.drop i) l1 = (match vR M[i] l1 with
    | none => none
    | some (x, l2) => match vsP (M.drop (i + 1)) l2 with
      | none => none
      | some (xs, l3) => some (x :: xs, l3)) := by
  rw [List.drop_eq_getElem_cons h, vsP]
theorem mosts_get (k : Int) : ∀ j, (mosts k).getD j 0 = if j = 0 ∨ j = 1 then 1048575 else if j = 2 then 1073741823 else if j = 3 then 1099511627775 else if j = 4 ∧ k = 1 then 1114111 else 0 := by
  intro j
  unfold mosts
  by_cases hk : k = 1
  · rw [if_pos hk]
    match j with
    | 0 | 1 | 2 | 3 => rfl
    | 4 => simp [hk]
    | n + 5 => simp
  · rw [if_neg hk]
    match j with
    | 0 | 1 | 2 | 3 => rfl
    | 4 => simp [hk]
    | n + 5 => simp
theorem vs_bound {vs M : List Int} {i : Nat} {x : Int} (h : ∀ j, 0 ≤ vs.getD j 0 ∧ vs.getD j 0 ≤ M.getD j 0) (hi : vs.length = i) (hx : 0 ≤ x ∧ x ≤ M.getD i 0) : ∀ j, 0 ≤ (vs ++ [x]).getD j 0 ∧ (vs ++ [x]).getD j 0 ≤ M.getD j 0 := by
  intro j
  have e := nV_set hi x j
  unfold nV at e
  by_cases hj : j = i
  · subst hj
    rw [if_pos rfl] at e
    have : x = (vs ++ [x]).getD j 0 := by injection e
    rw [← this]; exact hx
  · rw [if_neg hj] at e
    have : vs.getD j 0 = (vs ++ [x]).getD j 0 := by injection e
    rw [← this]; exact h j
theorem infoN5 : (Tryz.prog.info? 405).map (·.size) = some 5 := by kernel_rfl
set_option maxRecDepth 100000 in
set_option maxHeartbeats 1000000 in
theorem rop_any (rb g off cap : Nat) (l : List Int) (w : World) (h : Rd w rb g off cap l) (hgl : g < w.heap.size) (hS : Sents w) (hg9 : 15 ≤ rb) :
    Calls Tryz.prog 279 #[.pointer (some ⟨rb, 0, none⟩)] w fun e w' => RPost (oP l) gOp bOp rb g w e w' := by
  have hB0 : Below w.heap.size w (w.alloc (.cells #[.int .i64 0, .int .u32 0, .int .u32 0, .int .u32 0, .int .u64 0, .int .i32 0] 43)) := (Below.refl _ _).alloc (Nat.le_refl _) _
  have R0 : RowIs (w.alloc (.cells #[.int .i64 0, .int .u32 0, .int .u32 0, .int .u32 0, .int .u64 0, .int .i32 0] 43)) w.heap.size 43 6 (op6 (.int .i64 0) (.int .u32 0) (.int .u32 0) (.int .u32 0) (.int .u64 0) (.int .i32 0)) := RowIs.new w _ 6 (op6 _ _ _ _ _ _)
  have h0 := h.but hB0
  have hS0 := hS.below hB0
  have hrl := h.row.lt
  have n1 : w.heap.size ≠ rb := by omega
  have n2 : w.heap.size ≠ g := by omega
  cases l with
  | nil =>
    obtain ⟨-, -, -, -, -, ⟨aS, sS⟩, -, -, -⟩ := id hS0
    go_enter Tryz.func279, Tryz.ntmps279
    go_wp2_with (first
      | (go_at_call 247; refine (next_nil rb g _ _ _ h0 aS sS).mono ?_; rintro e w1 ⟨rfl, k1, rfl⟩)
      | (go_at_call 120; refine (in_err _ _ ⟨_, _, rfl⟩ _).mono ?_; rintro e w2 ⟨⟨x, rfl, hx⟩, hb2⟩; have R2 := (R0.drewM k1).below hb2 R0.lt)
      | (refine wpList_store_row rfl 43 (.tmp 2) (.tmp 16) rfl w.heap.size _ rfl rfl _ _ R2 infoAOp (by rw [rowOf_size]; rfl) (by simp [Value.oneCell']) ?_))
    exact bodyPost_ret (results_cell_tmp Tryz.results279 _ _ w.heap.size 43 _ (0, 0) _ _ rfl rfl (R2.setRow (op6 (.int .i64 0) (.int .u32 0) (.int .u32 0) (.int .u32 0) (.int .u64 0) (.int .i32 0))) Tryz.underlying43 rfl infoAOp) rfl (RPost.no rfl ⟨_, rfl, hx⟩ ((((But.below hB0).drewN k1).trans (But.below hb2)).setRow (Nat.le_refl _) _))
  | cons k l =>
    obtain ⟨b0, b1⟩ := h.byt.head
    have HP : Hid (∀ W, Calls Tryz.prog 318 #[.int .i64 k] W fun e w' => ∃ g cap, e = .returned (.slice (some ⟨g, 0, none⟩) (mosts k).length cap) ∧ W.heap.size ≤ g ∧ PartsAt w' g (mosts k) ∧ Below W.heap.size W w') := opParts_any k
    have HR : Hid (oP (k :: l) = (vsP (mosts k) l).map fun x => (opOf k x.1, x.2)) := oP_vs k l
    have hM5 : (mosts k).length ≤ 5 := by unfold mosts; split <;> decide
    have hM : ∀ j, (mosts k).getD j 0 = if j = 0 ∨ j = 1 then 1048575 else if j = 2 then 1073741823 else if j = 3 then 1099511627775 else if j = 4 ∧ k = 1 then 1114111 else 0 := mosts_get k
    generalize mosts k = M at *
    have HM : Hid (∀ j, M.getD j 0 = _) := hM
    have hM0 : M ≠ [] := fun e => by have := hM 0; rw [e] at this; simp at this
    clear hM
    generalize oP (k :: l) = R at *
    go_enter Tryz.func279, Tryz.ntmps279
    go_wp2_with (first
      | (go_at_call 247; refine (next_cons rb g _ _ k l _ h0).mono ?_; rintro e w1 ⟨rfl, h1, hb1, hs1⟩)
      | (go_at_call 318; refine (HP.out _).mono ?_; rintro e w2 ⟨pg, pcap, rfl, hpg, hpt, hb2⟩))
    have hw1s : w1.heap.size = w.heap.size + 1 := hs1.trans (by simp)
    have hpgs : w.heap.size + 2 ≤ pg := by simp at hpg; omega
    have hplt : pg < w2.heap.size := by
      exact block_lt_of_cell (hpt 0 (List.length_pos_iff.2 hM0)).2
    have hBn : Below w1.heap.size w1 (w1.alloc (.cells #[.int .u64 0, .int .u64 0, .int .u64 0, .int .u64 0, .int .u64 0] 405)) := (Below.refl _ _).alloc (Nat.le_refl _) _
    have hB12 := hBn.trans (hb2.mono hBn.size)
    have N1 : RowIs w2 (w.heap.size + 1) 405 5 (nV []) := by
      have := RowIs.new w1 405 5 (nV [])
      rw [hw1s] at this
      exact this.below hb2 this.lt
    have S1 : OpS w w2 rb g pg M [] l := ⟨(R0.but hb1 n1).below hB12 (R0.but hb1 n1).lt, N1, hpt, hplt, ⟨_, _, h1.but hB12⟩, ((But.below hB0).trans hb1).trans (But.below hB12)⟩
    clear hb1 h1 hb2 hpt N1 hB12 hBn hpg h0 hS0
    have n3 : w.heap.size + 1 ≠ rb := by omega
    have n4 : w.heap.size + 1 ≠ g := by omega
    have n5 : pg ≠ rb := by omega
    have n6 : pg ≠ w.heap.size + 1 := by omega
    go_loopw [23] (fun iv wr => ∃ (i : Nat) (vs l1 : List Int), i ≤ M.length ∧ iv = .int .i64 i ∧ vs.length = i ∧ (∀ j, 0 ≤ vs.getD j 0 ∧ vs.getD j 0 ≤ M.getD j 0) ∧ OpS w wr rb g pg M vs l1 ∧ R = (vsP (M.drop i) l1).map fun x => (opOf k (vs ++ x.1), x.2)) (fun iv _ => M.length - (intOf iv).toNat)
    case atStart => exact ⟨0, [], l, Nat.zero_le _, rfl, rfl, fun j => ⟨by simp, by rw [HM.out]; simp only [List.getD_nil]; split <;> (try split) <;> (try split) <;> (try split) <;> decide⟩, S1, HR.out⟩
    case round =>
      obtain ⟨i, vs, l1, hi, rfl, hvs, hvb, S, hR⟩ := hrel
      clear S1
      by_cases hlt : i < M.length
      · have li : (i : Int) < (M.length : Int) := by omega
        obtain ⟨⟨sn, c0⟩, c1⟩ := S.parts i hlt
        rw [vsP_step hlt] at hR
        have hMi : M.getD i 0 = M[i] := by simp [List.getD_eq_getElem?_getD, hlt]
        generalize M[i] = m at *
        have SA := S.alloc (.cells #[.string sn, .int .u64 m] 409)
        obtain ⟨offA, capA, hrA⟩ := SA.rd
        have hws := S.but.size
        have hns := S.num.lt
        have hSA := sents_but hS SA.but hg9
        have HV := rvar_any m rb g offA capA l1 _ hrA hSA hg9
        have hi5 : (i : Int) < 5 := by omega
        cases hv : vR m l1 with
        | none =>
          rw [hv] at HV hR
          have HV' : Hid (Calls _ _ _ _ _) := HV
          have HR2 : Hid (R = none) := hR
          clear HV hR
          go_wp2_with (first
            | (go_at_call 248; refine HV'.out.mono ?_; rintro e w3 ⟨⟨x, rfl, t, y, rfl⟩, hb3, hs3⟩; have N3 := SA.num.but hb3 n3; have d3c := N3.cell (show i < 5 by omega); have d3f := N3.free i; have P3 := ((RowIs.new wr 409 2 (fun j => if j = 0 then .string sn else .int .u64 m)).but hb3 (show ¬ wr.heap.size = rb by omega)).far (o := w.heap.size + 1) (by omega) i (.int .u64 0); have p0 : (w3.setCell ⟨w.heap.size + 1, i, none⟩ (.int .u64 0)).cell? ⟨wr.heap.size, 0, none⟩ = some (.string sn) := P3.cell (show 0 < 2 by omega); have R3 := (SA.res.but hb3 n1).far (o := w.heap.size + 1) (by omega) i (.int .u64 0); have B3 := (SA.but.trans hb3).setCell (p := ⟨w.heap.size + 1, i, none⟩) (Or.inr (Nat.le_succ _)) (.int .u64 0))
            | (go_at_call 120; refine (in_err _ _ ⟨_, _, rfl⟩ _).mono ?_; rintro e w4 ⟨⟨x, rfl, hx⟩, hb4⟩; have R4 := R3.below hb4 R3.lt; have B4 := B3.trans (But.below hb4))
            | (refine wpList_store_row rfl 43 (.tmp 2) (.tmp 39) rfl w.heap.size _ rfl rfl _ _ R4 infoAOp (by rw [rowOf_size]; rfl) (by simp [Value.oneCell']) ?_))
          exact bodyPost_ret (results_cell_tmp Tryz.results279 _ _ w.heap.size 43 _ (0, 0) _ _ rfl rfl (R4.setRow (op6 (.int .i64 0) (.int .u32 0) (.int .u32 0) (.int .u32 0) (.int .u64 0) (.int .i32 0))) Tryz.underlying43 rfl infoAOp) rfl (RPost.no HR2.out ⟨_, rfl, hx⟩ (B4.setRow (Nat.le_refl _) _))
        | some y =>
          obtain ⟨x, l2⟩ := y
          have hxb : 0 ≤ x ∧ x ≤ m := by have := vR_sound hrA.byt hv; exact ⟨this.1, this.2.1⟩
          rw [hv] at HV hR
          have HV' : Hid (Calls _ _ _ _ _) := HV
          have HR2 : Hid (R = _) := hR
          clear HV hR
          go_wp2_with (first
            | (go_at_call 248; refine HV'.out.mono ?_; rintro e w3 ⟨⟨rfl, off3, cap3, hr3⟩, hb3, hs3⟩; have S3 := SA.read hb3 hr3 n1 n3 n5; have d3c := S3.num.cell (show i < 5 by omega); have d3f := S3.num.free i))
          go_roundw
          case rel => exact ⟨i + 1, vs ++ [x], l2, hlt, by go_num, by simp [hvs], vs_bound hvb hvs (by rw [hMi]; exact hxb), S3.push hvs x n3 n4 n6, by
            rw [HR2.out]
            cases vsP (M.drop (i + 1)) l2 with
            | none => rfl
            | some z => obtain ⟨xs, l3⟩ := z; simp⟩
          case measure => simp [intOf]; omega
      · obtain rfl : i = M.length := by omega
        rw [List.drop_length] at hR
        have hR' : R = some (opOf k vs, l1) := by rw [hR]; simp [vsP]
        have HR3 : Hid (R = some (opOf k vs, l1)) := hR'
        clear hR hR'
        have v0 := hvb 0
        have v1 := hvb 1
        have v2 := hvb 2
        have v3 := hvb 3
        have v4 := hvb 4
        rw [HM.out] at v0 v1 v2 v3 v4
        simp only [or_true, if_true, reduceIte, Nat.reduceEqDiff, or_self, true_and, or_false] at v0 v1 v2 v3 v4
        have v4' : vs.getD 4 0 ≤ 1114111 := by
          have := v4.2
          split at this <;> omega
        have q0 : wr.cell? ⟨w.heap.size + 1, 0, none⟩ = some (.int .u64 (vs.getD 0 0)) := S.num.cell (show 0 < 5 by omega)
        have q1 : wr.cell? ⟨w.heap.size + 1, 1, none⟩ = some (.int .u64 (vs.getD 1 0)) := S.num.cell (show 1 < 5 by omega)
        have q2 : wr.cell? ⟨w.heap.size + 1, 2, none⟩ = some (.int .u64 (vs.getD 2 0)) := S.num.cell (show 2 < 5 by omega)
        have q3 : wr.cell? ⟨w.heap.size + 1, 3, none⟩ = some (.int .u64 (vs.getD 3 0)) := S.num.cell (show 3 < 5 by omega)
        have q4 : wr.cell? ⟨w.heap.size + 1, 4, none⟩ = some (.int .u64 (vs.getD 4 0)) := S.num.cell (show 4 < 5 by omega)
        unfold opOf at HR3
        generalize vs.getD 0 0 = x0 at *
        generalize vs.getD 1 0 = x1 at *
        generalize vs.getD 2 0 = x2 at *
        generalize vs.getD 3 0 = x3 at *
        generalize vs.getD 4 0 = x4 at *
        obtain ⟨v00, v01⟩ := v0
        obtain ⟨v10, v11⟩ := v1
        obtain ⟨v20, v21⟩ := v2
        have v40 := v4.1
        clear v4 v3
        obtain ⟨offS, capS, hrS⟩ := S.rd
        have hRes := S.res
        go_wp2_with (refine wpList_store_row rfl 43 (.tmp 2) (.tmp 61) rfl w.heap.size _ rfl rfl _ _ hRes infoAOp (by rw [rowOf_size]; rfl) (by simp [Value.oneCell']) ?_)
        exact bodyPost_ret (results_cell_tmp Tryz.results279 _ _ w.heap.size 43 _ (0, 0) _ _ rfl rfl (hRes.setRow (op6 (.int .i64 k) (.int .u32 x0) (.int .u32 x1) (.int .u32 x2) (.int .u64 x3) (.int .i32 x4))) Tryz.underlying43 rfl infoAOp) rfl (RPost.yes HR3.out rfl (hrS.setRow n1 n2 _) (S.but.setRow (Nat.le_refl _) _))
end Go.Proofs.YtgccjefbedpmpaaGreatDoor
namespace Go.Proofs.YtgccjefbedpmpaaGreatDoor
open Go.RowKit
/-- The cells of operations. -/
def opCs : List Opn → List Value
  | [] => []
  | o :: os => [.int .i64 o.kd, .int .u32 o.cl, .int .u32 o.ck, .int .u32 o.st, .int .u64 o.rf, .int .i32 o.ch] ++ opCs os
theorem opCs_app (a b : List Opn) : opCs (a ++ b) = opCs a ++ opCs b := by
  induction a with
  | nil => rfl
  | cons o a ih => simp only [List.cons_append, opCs, ih, List.append_assoc]
/-- A list of operations of one's own, in a block from B on. -/
def OwnO (w : World) (B : Nat) (v : Value) (os : List Opn) : Prop := w.ownsRow B 43 6 v os.length (opCs os)
def gOps (B : Nat) (os : List Opn) (w : World) (v : Value) : Prop := ∃ s, v = .tuple #[s, .nilIface] ∧ OwnO w B s os
def bOps (v : Value) : Prop := ∃ x, v = .tuple #[.slice none 0 0, x] ∧ Err x
theorem osP_len : ∀ (n : Nat) (l : List Int) (os : List Opn) (r : List Int), osP n l = some (os, r) → os.length = n := by
  intro n
  induction n with
  | zero => intro l os r h; cases h; rfl
  | succ n ih =>
    intro l os r h
    rw [osP] at h
    split at h
    · cases h
    · split at h
      · cases h
      · rename_i h2
        cases h
        rw [List.length_cons, ih _ _ _ h2]
theorem Rd.grown {w w' : World} {rb g off cap : Nat} {l : List Int} {row : Option Nat} (h : Rd w rb g off cap l) (hg : w.grownBy w' row) (h1 : row ≠ some rb) (h2 : row ≠ some g) : Rd w' rb g off cap l := by
  refine ⟨?_, h.room, h.big, fun i hi => ?_, h.byt, h.ne⟩
  · unfold RowIs; rw [hg.block rb h.row.lt fun e => h1 e.symm]; exact h.row
  · exact (World.cell?_of_block (hg.block g (block_lt_of_cell (h.bytes i hi)) fun e => h2 e.symm)).trans (h.bytes i hi)
theorem OwnO.but {w w' : World} {B rb : Nat} {v : Value} {os : List Opn} (h : OwnO w B v os) (hb : But (fun x => x = rb) w w') (hB : rb < B) : OwnO w' B v os :=
  own_frame h fun g hg => hb.block g (h.lt g hg).2 (by have := (h.lt g hg).1; omega)
theorem news6 (w : World) (A : Obj) (cs : List Value) : ∀ j u, cs[j]? = some u → ((w.alloc A).alloc (.cells cs.toArray 43)).cell? ((⟨w.heap.size + 1, 0, none⟩ : Addr).add j) = some u := by
  have := World.news_of_block (w := (w.alloc A).alloc (.cells cs.toArray 43)) (heap_alloc_new (w.alloc A) (.cells cs.toArray 43))
  simpa using this
set_option maxRecDepth 100000 in
set_option maxHeartbeats 1000000 in
theorem rops_any (k : Int) (rb g off cap : Nat) (l : List Int) (w : World) (h : Rd w rb g off cap l) (hgl : g < w.heap.size) (hS : Sents w) (hT : Tens w) (hg9 : 15 ≤ rb) :
    Calls Tryz.prog 251 #[.pointer (some ⟨rb, 0, none⟩), .int .i64 k] w fun e w' => RPost (opsP k l) (gOps w.heap.size) bOps rb g w e w' := by
  have hh := hasOps_any k
  have hrl := h.row.lt
  by_cases hk : 3 ≤ k ∧ k ≤ 5
  · rw [decide_eq_true hk.1, decide_eq_true hk.2] at hh
    have Hh : Hid (∀ w, Calls _ _ _ w _) := hh
    clear hh
    cases l with
    | nil =>
      have HR : Hid (opsP k [] = none) := by unfold opsP; rw [if_pos hk]; exact rfl
      generalize opsP k [] = R at *
      obtain ⟨-, -, -, -, -, ⟨aS, sS⟩, -, -, -⟩ := id hS
      go_enter Tryz.func251, Tryz.ntmps251
      go_wp2_with (first
        | (go_at_call 183; refine (Hh.out _).mono ?_; rintro e w1 ⟨rfl, hw1⟩; obtain rfl := hw1.symm)
        | (go_at_call 247; refine (next_nil rb g _ _ _ h aS sS).mono ?_; rintro e w2 ⟨rfl, k2, rfl⟩))
      go_ret2
      exact RPost.no HR.out ⟨_, rfl, _, _, rfl⟩ ((But.refl _ _).drewN _)
    | cons n l =>
      obtain ⟨b0, b1⟩ := h.byt.head
      obtain ⟨c, rfl⟩ : ∃ c : Nat, n = c := ⟨n.toNat, by omega⟩
      have HR : Hid (opsP k ((c : Int) :: l) = osP c l) := by unfold opsP; rw [if_pos hk]; exact rfl
      generalize opsP k ((c : Int) :: l) = R at *
      obtain ⟨io, hio, hzo0, hzo1, hzo2⟩ := info_parts infoO
      go_enter Tryz.func251, Tryz.ntmps251
      go_wp2_with (first
        | (go_at_call 183; refine (Hh.out _).mono ?_; rintro e w1 ⟨rfl, hw1⟩; obtain rfl := hw1.symm)
        | (go_at_call 247; refine (next_cons rb g _ _ c l _ h).mono ?_; rintro e w2 ⟨rfl, h2, hb2, hs2⟩))
      go_loopw [8, 25] (fun vv iv wr => ∃ (i : Nat) (os1 : List Opn) (l1 : List Int), i ≤ c ∧ iv = .int .i64 i ∧ os1.length = i ∧ OwnO wr w.heap.size vv os1 ∧ (∃ off cap, Rd wr rb g off cap l1) ∧ But (fun x => x = rb) w wr ∧ R = (osP (c - i) l1).map fun x => (os1 ++ x.1, x.2)) (fun _ iv _ => c - (intOf iv).toNat)
      case atStart => exact ⟨0, [], l, Nat.zero_le _, rfl, rfl, World.ownsRow_nil _ _ _ _, ⟨_, _, h2⟩, hb2, by rw [HR.out]; simp⟩
      case round =>
        obtain ⟨i, os1, l1, hi, rfl, hos, hown, ⟨off1, cap1, hr⟩, hbl, hR⟩ := hrel
        by_cases hlt : i < c
        · have li : (i : Int) < (c : Int) := by omega
          obtain ⟨m, hm⟩ : ∃ m, c - i = m + 1 := ⟨c - i - 1, by omega⟩
          rw [hm, osP] at hR
          have hS1 := sents_but hS hbl hg9
          have hT1 := tens_but hT hbl hg9
          have HV := rop_any rb g off1 cap1 l1 wr hr (Nat.lt_of_lt_of_le hgl hbl.size) hS1 hg9
          cases hv : oP l1 with
          | none =>
            rw [hv] at HV hR
            have HV' : Hid (Calls _ _ _ _ _) := HV
            have HR2 : Hid (R = none) := hR
            clear HV hR
            go_wp2_with (first
              | (go_at_call 279; refine HV'.out.mono ?_; rintro e w3 ⟨v3, rfl, ⟨x, rfl, t, y, rfl⟩, hb3⟩; have hb3' := (hbl.trans hb3).alloc (.cells #[.int .i64 0, .int .u32 0, .int .u32 0, .int .u32 0, .int .u64 0, .int .i32 0] 43); have hT3 := tens_but hT hb3' hg9)
              | (go_at_call 278; refine (itoa_any i (by omega) (by omega) _ hT3).mono ?_; rintro e w4 ⟨⟨s4, rfl⟩, hb4⟩)
              | (go_at_call 120; refine (in_err _ _ ⟨_, _, rfl⟩ _).mono ?_; rintro e w5 ⟨⟨x, rfl, hx⟩, hb5⟩))
            go_ret2
            exact RPost.no HR2.out ⟨_, rfl, hx⟩ ((hb3'.trans (But.below hb4)).trans (But.below hb5))
          | some y =>
            obtain ⟨o, l2⟩ := y
            rw [hv] at HV hR
            have HV' : Hid (Calls _ _ _ _ _) := HV
            have HR2 : Hid (R = _) := hR
            clear HV hR
            go_wp2_with (first
              | (go_at_call 279; refine HV'.out.mono ?_; rintro e w3 ⟨v3, rfl, ⟨rfl, off3, cap3, hr3⟩, hb3⟩; have hown3 := hown.but hb3 hrl; have hb3' := hbl.trans hb3; have hs3 := hb3'.size)
              | (at_builtin; refine wpList_append_own_at _ rfl (.tmp 39) (.tmp 41) 32 rfl w.heap.size 43 io (.agg #[.int .i64 0, .int .u32 0, .int .u32 0, .int .u32 0, .int .u64 0, .int .i32 0]) 6 40 Tryz.underlying32 hio hzo0 hzo1 hzo2 rfl (by decide) _ os1.length (opCs os1) rfl ((World.ownsRow.alloc hown3 _).alloc _) ⟨w3.heap.size + 1, 0, none⟩ 1 1 [.int .i64 o.kd, .int .u32 o.cl, .int .u32 o.ck, .int .u32 o.st, .int .u64 o.rf, .int .i32 o.ch] rfl rfl ?hn (by simp [Value.oneCell']) (by unfold maxLen; omega) (by omega) (by simp; omega) ?_; (case hn => exact news6 w3 _ _); intro v6 w6 ho6 hg6 _ hat6))
            have ho6' : OwnO w6 w.heap.size v6 (os1 ++ [o]) := by unfold OwnO; rw [List.length_append, opCs_app]; exact ho6
            have hlt6 : ∀ y, Value.ownBlock _ = some y → w.heap.size ≤ y := fun y e => (hown3.lt y e).1
            have hbA : But (fun x => x = rb) w ((w3.alloc (.cells #[.int .i64 o.kd, .int .u32 o.cl, .int .u32 o.ck, .int .u32 o.st, .int .u64 o.rf, .int .i32 o.ch] 43)).alloc (.cells #[.int .i64 o.kd, .int .u32 o.cl, .int .u32 o.ck, .int .u32 o.st, .int .u64 o.rf, .int .i32 o.ch] 43)) := (hb3'.alloc _).alloc _
            have hb6 : But (fun x => x = rb) w w6 := ⟨Nat.le_trans hbA.size hg6.size, hg6.os.trans hbA.os, hg6.tape.trans hbA.tape, hg6.output.trans hbA.output, fun b h1 h2 => (hg6.block b (Nat.lt_of_lt_of_le h1 hbA.size) fun e => by have := hlt6 b e.symm; omega).trans (hbA.block b h1 h2)⟩
            have hBl : Below w3.heap.size w3 ((w3.alloc (.cells #[.int .i64 o.kd, .int .u32 o.cl, .int .u32 o.ck, .int .u32 o.st, .int .u64 o.rf, .int .i32 o.ch] 43)).alloc (.cells #[.int .i64 o.kd, .int .u32 o.cl, .int .u32 o.ck, .int .u32 o.st, .int .u64 o.rf, .int .i32 o.ch] 43)) := ((Below.refl _ _).alloc (Nat.le_refl _) _).alloc (by simp) _
            have hr6 := (hr3.but hBl).grown hg6 (fun e => by have := hlt6 rb e; omega) (fun e => by have := hlt6 g e; omega)
            go_roundw
            case rel => exact ⟨i + 1, os1 ++ [o], l2, hlt, by go_num, by simp [hos], ho6', ⟨_, _, hr6⟩, hb6, by
              rw [HR2.out, show c - (i + 1) = m by omega]
              cases osP m l2 with
              | none => rfl
              | some z => obtain ⟨xs, l3⟩ := z; simp⟩
            case measure => simp [intOf]; omega
        · obtain rfl : i = c := by omega
          have hR' : R = some (os1, l1) := by rw [hR, Nat.sub_self]; simp [osP]
          have HR3 : Hid (R = some (os1, l1)) := hR'
          clear hR hR'
          go_wp2_with fail
          go_ret2
          exact RPost.yes HR3.out ⟨_, rfl, hown⟩ hr hbl
  · have e : (decide (3 ≤ k) && decide (k ≤ 5)) = false := by simp; omega
    rw [e] at hh
    have Hh : Hid (∀ w, Calls _ _ _ w _) := hh
    have HR : Hid (opsP k l = some ([], l)) := by unfold opsP; rw [if_neg hk]; exact rfl
    generalize opsP k l = R at *
    clear hh
    go_enter Tryz.func251, Tryz.ntmps251
    go_wp2_with (go_at_call 183; refine (Hh.out _).mono ?_; rintro e w1 ⟨rfl, hw1⟩; obtain rfl := hw1.symm)
    go_ret2
    exact RPost.yes HR.out ⟨_, rfl, World.ownsRow_nil _ _ _ _⟩ h (But.refl _ _)
end Go.Proofs.YtgccjefbedpmpaaGreatDoor

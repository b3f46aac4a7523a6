import Derived.Test.YtgccjefbedpmpaaGreatDoorGRPar
import Derived.Test.YtgccjefbedpmpaaGreatDoorZFrmF
import Derived.Test.YtgccjefbedpmpaaGreatDoorGRdN
import Derived.Test.YtgccjefbedpmpaaGreatDoorGWPack
import Derived.Test.YtgccjefbedpmpaaGreatDoorZEqD
import Derived.Deep.RegionHeld3
namespace Go.Proofs.YtgccjefbedpmpaaGreatDoor
open Go.RowKit
/-- A frame's cells. -/
def fr8 (k s lo hi d0 d1 d2 : Int) (v : Value) : Nat → Value
  | 0 => .int .i64 k
  | 1 => .int .u32 s
  | 2 => .int .u64 lo
  | 3 => .int .u64 hi
  | 4 => .int .u8 d0
  | 5 => .int .u8 d1
  | 6 => .int .u8 d2
  | _ => v
theorem infoFr : (Tryz.prog.info? 58).map (·.size) = some 8 := by kernel_rfl
theorem fr8_one (k s lo hi d0 d1 d2 : Int) (a : Option Addr) (n c : Nat) : ((rowOf 8 (fr8 k s lo hi d0 d1 d2 (.slice a n c))).all (·.oneCell')) = true := by
  have e : rowOf 8 (fr8 k s lo hi d0 d1 d2 (.slice a n c)) = #[.int .i64 k, .int .u32 s, .int .u64 lo, .int .u64 hi, .int .u8 d0, .int .u8 d1, .int .u8 d2, .slice a n c] := rfl
  rw [e]; simp [Value.oneCell']
/-- What lies in memory while a frame is read. -/
structure FrS (w wr : World) (rb g : Nat) (f : Nat → Value) (l1 : List Int) : Prop where
  res : RowIs wr w.heap.size 58 8 (fr8 0 0 0 0 0 0 0 (.slice none 0 0))
  fb : RowIs wr (w.heap.size + 1) 58 8 f
  rd : ∃ off cap, Rd wr rb g off cap l1
  but : But (fun x => x = rb) w wr
section
variable {w wr w2 : World} {rb g off cap : Nat} {f f' : Nat → Value} {l1 l2 : List Int}
theorem FrS.read (h : FrS w wr rb g f l1) (hb : But (fun x => x = rb) wr w2) (hr : Rd w2 rb g off cap l2) (h1 : w.heap.size ≠ rb) (h2 : w.heap.size + 1 ≠ rb) : FrS w w2 rb g f l2 :=
  ⟨h.res.but hb h1, h.fb.but hb h2, ⟨off, cap, hr⟩, h.but.trans hb⟩
theorem FrS.set (h : FrS w wr rb g f l1) (j : Nat) (v : Value) (h2 : w.heap.size + 1 ≠ rb) (h3 : w.heap.size + 1 ≠ g) (hf : ∀ i, i < 8 → (if i = j then v else f i) = f' i) : FrS w (wr.setCell ⟨w.heap.size + 1, j, none⟩ v) rb g f' l1 := by
  obtain ⟨off, cap, hr⟩ := h.rd
  exact ⟨h.res.far (by omega) j v, (h.fb.set j v).congr hf, ⟨off, cap, hr.set h2 h3 j v⟩, h.but.setCell (p := ⟨w.heap.size + 1, j, none⟩) (Or.inr (Nat.le_succ _)) v⟩
theorem FrS.cells (h : FrS w wr rb g f l1) : wr.cell? ⟨w.heap.size + 1, 0, none⟩ = some (f 0) ∧ wr.cell? ⟨w.heap.size + 1, 1, none⟩ = some (f 1) ∧ wr.cell? ⟨w.heap.size + 1, 2, none⟩ = some (f 2) ∧ wr.cell? ⟨w.heap.size + 1, 3, none⟩ = some (f 3) ∧ wr.cell? ⟨w.heap.size + 1, 4, none⟩ = some (f 4) ∧ wr.cell? ⟨w.heap.size + 1, 5, none⟩ = some (f 5) ∧ wr.cell? ⟨w.heap.size + 1, 6, none⟩ = some (f 6) ∧ wr.cell? ⟨w.heap.size + 1, 7, none⟩ = some (f 7) :=
  ⟨h.fb.cell (by omega), h.fb.cell (by omega), h.fb.cell (by omega), h.fb.cell (by omega), h.fb.cell (by omega), h.fb.cell (by omega), h.fb.cell (by omega), h.fb.cell (by omega)⟩
end
/-- What lies in memory while an error is wrapped and handed back with what was read so far. -/
structure ErS (w wr : World) (rb : Nat) (f : Nat → Value) : Prop where
  res : ∃ f0, RowIs wr w.heap.size 58 8 f0 ∧ ((rowOf 8 f0).all (·.oneCell')) = true
  fb : RowIs wr (w.heap.size + 1) 58 8 f
  but : But (fun x => x = rb) w wr
section
variable {w wr w2 : World} {rb g : Nat} {f : Nat → Value} {l1 : List Int}
theorem FrS.err (h : FrS w wr rb g f l1) : ErS w wr rb f := ⟨⟨_, h.res, fr8_one _ _ _ _ _ _ _ _ _ _⟩, h.fb, h.but⟩
theorem ErS.kept (h : ErS w wr rb f) (hb : Below wr.heap.size wr w2) : ErS w w2 rb f := by
  obtain ⟨f0, hr, ho⟩ := h.res
  exact ⟨⟨f0, hr.below hb hr.lt, ho⟩, h.fb.below hb h.fb.lt, h.but.trans (But.below hb)⟩
theorem ErS.read (h : ErS w wr rb f) (hb : But (fun x => x = rb) wr w2) (h1 : w.heap.size ≠ rb) (h2 : w.heap.size + 1 ≠ rb) : ErS w w2 rb f := by
  obtain ⟨f0, hr, ho⟩ := h.res
  exact ⟨⟨f0, hr.but hb h1, ho⟩, h.fb.but hb h2, h.but.trans hb⟩
theorem ErS.drewN (h : ErS w wr rb f) (n : Nat) : ErS w (wr.drewN n) rb f := ⟨h.res, h.fb, h.but.drewN n⟩
theorem ErS.drew (h : ErS w wr rb f) : ErS w wr.drew rb f := h.drewN 1
theorem ErS.put (h : ErS w wr rb f) (f0 : Nat → Value) (h0 : ((rowOf 8 f0).all (·.oneCell')) = true) : ErS w (wr.setRow w.heap.size (rowOf 8 f0)) rb f := by
  obtain ⟨f1, hr, -⟩ := h.res
  exact ⟨⟨f0, hr.setRow f0, h0⟩, h.fb.setRowOther (by omega) _, h.but.setRow (Nat.le_refl _) _⟩
theorem ErS.set {f' : Nat → Value} (h : ErS w wr rb f) (j : Nat) (v : Value) (hf : ∀ i, i < 8 → (if i = j then v else f i) = f' i) : ErS w (wr.setCell ⟨w.heap.size + 1, j, none⟩ v) rb f' := by
  obtain ⟨f1, hr, ho⟩ := h.res
  exact ⟨⟨f1, hr.far (by omega) j v, ho⟩, (h.fb.set j v).congr hf, h.but.setCell (p := ⟨w.heap.size + 1, j, none⟩) (Or.inr (Nat.le_succ _)) v⟩
theorem ErS.cells (h : ErS w wr rb f) : wr.cell? ⟨w.heap.size + 1, 0, none⟩ = some (f 0) ∧ wr.cell? ⟨w.heap.size + 1, 1, none⟩ = some (f 1) ∧ wr.cell? ⟨w.heap.size + 1, 2, none⟩ = some (f 2) ∧ wr.cell? ⟨w.heap.size + 1, 3, none⟩ = some (f 3) ∧ wr.cell? ⟨w.heap.size + 1, 4, none⟩ = some (f 4) ∧ wr.cell? ⟨w.heap.size + 1, 5, none⟩ = some (f 5) ∧ wr.cell? ⟨w.heap.size + 1, 6, none⟩ = some (f 6) ∧ wr.cell? ⟨w.heap.size + 1, 7, none⟩ = some (f 7) :=
  ⟨h.fb.cell (by omega), h.fb.cell (by omega), h.fb.cell (by omega), h.fb.cell (by omega), h.fb.cell (by omega), h.fb.cell (by omega), h.fb.cell (by omega), h.fb.cell (by omega)⟩
end
theorem OwnO.base {w : World} {B C : Nat} {v : Value} {os : List Opn} (h : OwnO w B v os) (hc : C ≤ B) : OwnO w C v os := by
  refine ⟨h.1, ?_⟩
  rcases h.2 with h2 | ⟨g, cap, cur, h3, h4, h5⟩
  · exact Or.inl h2
  · exact Or.inr ⟨g, cap, cur, h3, Nat.le_trans hc h4, h5⟩
def gFr (B : Nat) (f : Frm) (w : World) (v : Value) : Prop := ∃ s, v = .tuple #[f.val s, .nilIface] ∧ OwnO w B s f.ops
def bFr (v : Value) : Prop := ∃ f0 x, v = .tuple #[.agg (rowOf 8 f0), x] ∧ ((rowOf 8 f0).all (·.oneCell')) = true ∧ Err x
theorem frP_eq (k : Int) (l : List Int) : frP (k :: l) = (match vR 1073741823 l with
      | none => none
      | some (ss, l1) => match rgP2 k l1 with
        | none => none
        | some ((lo, hi), l2) => match dgP2 k l2 with
          | none => none
          | some ((a, b, c), l3) => match opsP k l3 with
            | none => none
            | some (os, l4) => some (⟨k, ss, lo, hi, a, b, c, os⟩, l4)) := by
  rw [frP]
  cases vR 1073741823 l with
  | none => rfl
  | some y =>
    obtain ⟨ss, l1⟩ := y
    unfold rgP2
    dsimp only
    cases rgP k l1 with
    | none => rfl
    | some y =>
      obtain ⟨lo, hi, l2⟩ := y
      unfold dgP2
      simp only [Option.map_some]
      cases dgP k l2 with
      | none => rfl
      | some y =>
        obtain ⟨a, b, c, l3⟩ := y
        rfl
set_option maxRecDepth 100000 in
set_option maxHeartbeats 4000000 in
theorem rparts_any (rb g off cap : Nat) (l : List Int) (w : World) (h : Rd w rb g off cap l) (hgl : g < w.heap.size) (hS : Sents w) (hT : Tens w) (hg9 : 15 ≤ rb) :
    Calls Tryz.prog 190 #[.pointer (some ⟨rb, 0, none⟩)] w fun e w' => RPost (frP l) (gFr w.heap.size) bFr rb g w e w' := by
  have hrl := h.row.lt
  have n1 : w.heap.size ≠ rb := by omega
  have n2 : w.heap.size + 1 ≠ rb := by omega
  have n3 : w.heap.size + 1 ≠ g := by omega
  have n4 : w.heap.size ≠ g := by omega
  have hB0 : Below w.heap.size w ((w.alloc (.cells #[.int .i64 0, .int .u32 0, .int .u64 0, .int .u64 0, .int .u8 0, .int .u8 0, .int .u8 0, .slice none 0 0] 58)).alloc (.cells #[.int .i64 0, .int .u32 0, .int .u64 0, .int .u64 0, .int .u8 0, .int .u8 0, .int .u8 0, .slice none 0 0] 58)) := ((Below.refl _ _).alloc (Nat.le_refl _) _).alloc (by simp) _
  have S0 : FrS w ((w.alloc (.cells #[.int .i64 0, .int .u32 0, .int .u64 0, .int .u64 0, .int .u8 0, .int .u8 0, .int .u8 0, .slice none 0 0] 58)).alloc (.cells #[.int .i64 0, .int .u32 0, .int .u64 0, .int .u64 0, .int .u8 0, .int .u8 0, .int .u8 0, .slice none 0 0] 58)) rb g (fr8 0 0 0 0 0 0 0 (.slice none 0 0)) l := by
    have hq := RowIs.new (w.alloc (.cells #[.int .i64 0, .int .u32 0, .int .u64 0, .int .u64 0, .int .u8 0, .int .u8 0, .int .u8 0, .slice none 0 0] 58)) 58 8 (fr8 0 0 0 0 0 0 0 (.slice none 0 0))
    rw [show (w.alloc (.cells #[.int .i64 0, .int .u32 0, .int .u64 0, .int .u64 0, .int .u8 0, .int .u8 0, .int .u8 0, .slice none 0 0] 58)).heap.size = w.heap.size + 1 by simp] at hq
    exact ⟨(RowIs.new w 58 8 (fr8 0 0 0 0 0 0 0 (.slice none 0 0))).below ((Below.refl _ _).alloc (Nat.le_refl _) _) (by simp), hq, ⟨_, _, h.but hB0⟩, But.below hB0⟩
  cases l with
  | nil =>
    obtain ⟨off0, cap0, h0⟩ := S0.rd
    obtain ⟨-, -, -, -, -, ⟨aS, sS⟩, -, -, -⟩ := sents_but hS S0.but hg9
    go_enter Tryz.func190, Tryz.ntmps190
    go_wp2_with (first
      | (go_at_call 247; refine (next_nil rb g _ _ _ h0 aS sS).mono ?_; rintro e w2 ⟨rfl, k2, rfl⟩))
    refine wp_region_held_drew (S := fun w' => ErS w w' rb (fr8 0 0 0 0 0 0 0 (.slice none 0 0))) (by kernel_rfl) (S0.err.drewN k2).drew (fun hHeld => ?_)
    generalize World.drew _ = wD at hHeld ⊢
    refine wpAnyH_take (i := 0) (oi := { dst := some 16, op := _, type := _, pos := _, after := _, guard := _ }) rfl (by kernel_rfl) (by kernel_rfl) (by kernel_rfl) (fun _ _ _ h => h) (Or.inl ⟨by rfl, fun w hS => by obtain ⟨c0, c1, c2, c3, c4, c5, c6, c7⟩ := hS.cells; go_simp; rfl⟩) hHeld ?_
    simp only [Act.put, List.setIfInBounds_toArray, List.set_cons_zero, List.set_cons_succ]
    refine wpAnyH_take (i := 1) (oi := { dst := some 17, op := _, type := _, pos := _, after := _, guard := _ }) rfl (by kernel_rfl) (by kernel_rfl) (by kernel_rfl) (fun _ _ _ h => h) (Or.inl ⟨by rfl, fun w _ => by go_simp; rfl⟩) hHeld ?_
    simp only [Act.put, List.setIfInBounds_toArray, List.set_cons_zero, List.set_cons_succ]
    refine wpAnyH_ready (rs := [2]) (by kernel_rfl) (by simp) (AllReadyH.cons (o := { dst := some 18, op := _, type := _, pos := _, after := _, guard := _ }) rfl (fun K hK => ?_) AllReadyH.nil)
    go_simp
    refine (in_err _ _ ⟨_, _, rfl⟩ _).mono ?_
    rintro e w5 ⟨⟨xe, rfl, hxe⟩, hb5⟩
    refine hK.out _ _ (hHeld.kept hb5) (fun hHeld => ?_)
    clear hK K
    refine wpAnyH_ready (rs := [3]) (by kernel_rfl) (by simp) (AllReadyH.cons (o := { dst := none, op := _, type := _, pos := _, after := _, guard := _ }) rfl (fun K hK => ?_) AllReadyH.nil)
    obtain ⟨f0, hRes, -⟩ := hHeld.res
    rw [if_pos (by rfl)]
    refine wp_store_row 58 (.tmp 2) (.tmp 16) rfl w.heap.size (rowOf 8 (fr8 0 0 0 0 0 0 0 (.slice none 0 0))) rfl rfl _ _ hRes (by rw [rowOf_size]; exact infoFr) (by rw [rowOf_size, rowOf_size]) (fr8_one _ _ _ _ _ _ _ _ _ _) ?_
    refine hK.out _ _ (hHeld.put _ (fr8_one _ _ _ _ _ _ _ _ _ _)) (fun hHeld => ?_)
    clear hK K hRes
    refine wpAnyH_ready (rs := [4]) (by kernel_rfl) (by simp) (AllReadyH.cons (o := { dst := some 3, op := _, type := _, pos := _, after := _, guard := _ }) rfl (fun K hK => ?_) AllReadyH.nil)
    go_simp
    refine hK.out _ _ hHeld (fun hHeld => ?_)
    clear hK K
    refine wpAnyH_done (by kernel_rfl) ?_ _
    go_wp2_with fail
    obtain ⟨f9, hRes9, hOne9⟩ := hHeld.res
    exact bodyPost_ret (results_cell_tmp Tryz.results190 _ _ w.heap.size 58 _ (0, 0) _ _ rfl rfl hRes9 Tryz.underlying58 rfl (by rw [rowOf_size]; exact infoFr)) rfl (RPost.no rfl ⟨f9, _, rfl, hOne9, hxe⟩ hHeld.but)
  | cons k l =>
    obtain ⟨off0, cap0, h0⟩ := S0.rd
    obtain ⟨b0, b1⟩ := h.byt.head
    go_enter Tryz.func190, Tryz.ntmps190
    have HR0 : frP (k :: l) = (match vR 1073741823 l with
      | none => none
      | some (ss, l1) => match rgP2 k l1 with
        | none => none
        | some ((lo, hi), l2) => match dgP2 k l2 with
          | none => none
          | some ((a, b, c), l3) => match opsP k l3 with
            | none => none
            | some (os, l4) => some (⟨k, ss, lo, hi, a, b, c, os⟩, l4)) := frP_eq k l
    generalize frP (k :: l) = R at *
    cases hv1 : vR 1073741823 l with
    | none =>
      rw [hv1] at HR0
      have HR1 : Hid (R = none) := HR0
      clear HR0
      go_wp2_with (first
        | (go_at_call 248; refine (rvar_any _ rb g _ _ l _ hr1 hS1 hg9).mono ?_; rw [hv1]; rintro e w2 ⟨⟨x, rfl, t, y, rfl⟩, hb2, hs2⟩; have E2 := S1.err.read hb2 n1 n2)
        | (go_at_call 247; refine (next_cons rb g _ _ k l _ h0).mono ?_; rintro e w1 ⟨rfl, h1, hb1, hs1⟩; have S1q := S0.read hb1 h1 n1 n2; have f1c := S1q.fb.cell (show 0 < 8 by omega); have f1f := S1q.fb.free 0; have S1 := S1q.set (f' := fr8 k 0 0 0 0 0 0 (.slice none 0 0)) 0 (.int .i64 k) n2 n3 (fun i hi => by match i, hi with | 0, _ => rfl | 1, _ => rfl | 2, _ => rfl | 3, _ => rfl | 4, _ => rfl | 5, _ => rfl | 6, _ => rfl | 7, _ => rfl); obtain ⟨off1, cap1, hr1⟩ := S1.rd; have hS1 := sents_but hS S1.but hg9))
      refine wp_region_held_drew (S := fun w' => ErS w w' rb (fr8 k 0 0 0 0 0 0 (.slice none 0 0))) (by kernel_rfl) E2.drew (fun hHeld => ?_)
      generalize World.drew _ = wD at hHeld ⊢
      refine wpAnyH_take (i := 0) (oi := { dst := some 29, op := _, type := _, pos := _, after := _, guard := _ }) rfl (by kernel_rfl) (by kernel_rfl) (by kernel_rfl) (fun _ _ _ h => h) (Or.inl ⟨by rfl, fun w hS => by obtain ⟨c0, c1, c2, c3, c4, c5, c6, c7⟩ := hS.cells; go_simp; rfl⟩) hHeld ?_
      simp only [Act.put, List.setIfInBounds_toArray, List.set_cons_zero, List.set_cons_succ]
      refine wpAnyH_take (i := 1) (oi := { dst := some 30, op := _, type := _, pos := _, after := _, guard := _ }) rfl (by kernel_rfl) (by kernel_rfl) (by kernel_rfl) (fun _ _ _ h => h) (Or.inl ⟨by rfl, fun w _ => by go_simp; rfl⟩) hHeld ?_
      simp only [Act.put, List.setIfInBounds_toArray, List.set_cons_zero, List.set_cons_succ]
      refine wpAnyH_ready (rs := [2]) (by kernel_rfl) (by simp) (AllReadyH.cons (o := { dst := some 31, op := _, type := _, pos := _, after := _, guard := _ }) rfl (fun K hK => ?_) AllReadyH.nil)
      go_simp
      refine (in_err _ _ ⟨_, _, rfl⟩ _).mono ?_
      rintro e w5 ⟨⟨xe, rfl, hxe⟩, hb5⟩
      refine hK.out _ _ (hHeld.kept hb5) (fun hHeld => ?_)
      clear hK K
      refine wpAnyH_ready (rs := [3]) (by kernel_rfl) (by simp) (AllReadyH.cons (o := { dst := none, op := _, type := _, pos := _, after := _, guard := _ }) rfl (fun K hK => ?_) AllReadyH.nil)
      obtain ⟨f0, hRes, -⟩ := hHeld.res
      rw [if_pos (by rfl)]
      refine wp_store_row 58 (.tmp 2) (.tmp 29) rfl w.heap.size (rowOf 8 (fr8 k 0 0 0 0 0 0 (.slice none 0 0))) rfl rfl _ _ hRes (by rw [rowOf_size]; exact infoFr) (by rw [rowOf_size, rowOf_size]) (fr8_one _ _ _ _ _ _ _ _ _ _) ?_
      refine hK.out _ _ (hHeld.put _ (fr8_one _ _ _ _ _ _ _ _ _ _)) (fun hHeld => ?_)
      clear hK K hRes
      refine wpAnyH_ready (rs := [4]) (by kernel_rfl) (by simp) (AllReadyH.cons (o := { dst := some 3, op := _, type := _, pos := _, after := _, guard := _ }) rfl (fun K hK => ?_) AllReadyH.nil)
      go_simp
      refine hK.out _ _ hHeld (fun hHeld => ?_)
      clear hK K
      refine wpAnyH_done (by kernel_rfl) ?_ _
      go_wp2_with fail
      obtain ⟨f9, hRes9, hOne9⟩ := hHeld.res
      exact bodyPost_ret (results_cell_tmp Tryz.results190 _ _ w.heap.size 58 _ (0, 0) _ _ rfl rfl hRes9 Tryz.underlying58 rfl (by rw [rowOf_size]; exact infoFr)) rfl (RPost.no HR1.out ⟨f9, _, rfl, hOne9, hxe⟩ hHeld.but)

    | some y1 =>
      obtain ⟨ss, l1⟩ := y1
      rw [hv1] at HR0
      dsimp only at HR0
      obtain ⟨ss0, ss1⟩ : 0 ≤ ss ∧ ss ≤ 1073741823 := by have := vR_sound h.byt.tail hv1; exact ⟨this.1, this.2.1⟩
      cases hv2 : rgP2 k l1 with
      | none =>
        rw [hv2] at HR0
        have HR1 : Hid (R = none) := HR0
        clear HR0
        go_wp2_with (first
          | (go_at_call 249; refine (rrng_any k rb g _ _ l1 _ hr2' hS2 hg9).mono ?_; rw [hv2]; rintro e w3 ⟨v3, rfl, ⟨xa, xb, x, rfl, t, y, rfl⟩, hb3⟩; have E3q := S2.err.read hb3 n1 n2; have f3c := E3q.fb.cell (show 2 < 8 by omega); have f3d := E3q.fb.cell (show 3 < 8 by omega); have f3f := E3q.fb.free; have E3 := (E3q.set (f' := fr8 k ss xa 0 0 0 0 (.slice none 0 0)) 2 (.int .u64 xa) (fun i hi => by match i, hi with | 0, _ => rfl | 1, _ => rfl | 2, _ => rfl | 3, _ => rfl | 4, _ => rfl | 5, _ => rfl | 6, _ => rfl | 7, _ => rfl)).set (f' := fr8 k ss xa xb 0 0 0 (.slice none 0 0)) 3 (.int .u64 xb) (fun i hi => by match i, hi with | 0, _ => rfl | 1, _ => rfl | 2, _ => rfl | 3, _ => rfl | 4, _ => rfl | 5, _ => rfl | 6, _ => rfl | 7, _ => rfl))
          | (go_at_call 248; refine (rvar_any _ rb g _ _ l _ hr1 hS1 hg9).mono ?_; rw [hv1]; rintro e w2 ⟨⟨rfl, off2, cap2, hr2⟩, hb2, hs2⟩; have S2q := S1.read hb2 hr2 n1 n2; have f2c := S2q.fb.cell (show 1 < 8 by omega); have f2f := S2q.fb.free 1; have S2 := S2q.set (f' := fr8 k ss 0 0 0 0 0 (.slice none 0 0)) 1 (.int .u32 ss) n2 n3 (fun i hi => by match i, hi with | 0, _ => rfl | 1, _ => rfl | 2, _ => rfl | 3, _ => rfl | 4, _ => rfl | 5, _ => rfl | 6, _ => rfl | 7, _ => rfl); obtain ⟨off2', cap2', hr2'⟩ := S2.rd; have hS2 := sents_but hS S2.but hg9; have f20 : World.cell? _ ⟨w.heap.size + 1, 0, none⟩ = some (.int .i64 k) := S2.fb.cell (show 0 < 8 by omega))
          | (go_at_call 247; refine (next_cons rb g _ _ k l _ h0).mono ?_; rintro e w1 ⟨rfl, h1, hb1, hs1⟩; have S1q := S0.read hb1 h1 n1 n2; have f1c := S1q.fb.cell (show 0 < 8 by omega); have f1f := S1q.fb.free 0; have S1 := S1q.set (f' := fr8 k 0 0 0 0 0 0 (.slice none 0 0)) 0 (.int .i64 k) n2 n3 (fun i hi => by match i, hi with | 0, _ => rfl | 1, _ => rfl | 2, _ => rfl | 3, _ => rfl | 4, _ => rfl | 5, _ => rfl | 6, _ => rfl | 7, _ => rfl); obtain ⟨off1, cap1, hr1⟩ := S1.rd; have hS1 := sents_but hS S1.but hg9))
        refine wp_region_held_drew (S := fun w' => ErS w w' rb (fr8 k ss xa xb 0 0 0 (.slice none 0 0))) (by kernel_rfl) E3.drew (fun hHeld => ?_)
        generalize World.drew _ = wD at hHeld ⊢
        refine wpAnyH_take (i := 0) (oi := { dst := some 47, op := _, type := _, pos := _, after := _, guard := _ }) rfl (by kernel_rfl) (by kernel_rfl) (by kernel_rfl) (fun _ _ _ h => h) (Or.inl ⟨by rfl, fun w hS => by obtain ⟨c0, c1, c2, c3, c4, c5, c6, c7⟩ := hS.cells; go_simp; rfl⟩) hHeld ?_
        simp only [Act.put, List.setIfInBounds_toArray, List.set_cons_zero, List.set_cons_succ]
        refine wpAnyH_take (i := 1) (oi := { dst := some 48, op := _, type := _, pos := _, after := _, guard := _ }) rfl (by kernel_rfl) (by kernel_rfl) (by kernel_rfl) (fun _ _ _ h => h) (Or.inl ⟨by rfl, fun w _ => by go_simp; rfl⟩) hHeld ?_
        simp only [Act.put, List.setIfInBounds_toArray, List.set_cons_zero, List.set_cons_succ]
        refine wpAnyH_ready (rs := [2]) (by kernel_rfl) (by simp) (AllReadyH.cons (o := { dst := some 49, op := _, type := _, pos := _, after := _, guard := _ }) rfl (fun K hK => ?_) AllReadyH.nil)
        go_simp
        refine (in_err _ _ ⟨_, _, rfl⟩ _).mono ?_
        rintro e w5 ⟨⟨xe, rfl, hxe⟩, hb5⟩
        refine hK.out _ _ (hHeld.kept hb5) (fun hHeld => ?_)
        clear hK K
        refine wpAnyH_ready (rs := [3]) (by kernel_rfl) (by simp) (AllReadyH.cons (o := { dst := none, op := _, type := _, pos := _, after := _, guard := _ }) rfl (fun K hK => ?_) AllReadyH.nil)
        obtain ⟨f0, hRes, -⟩ := hHeld.res
        rw [if_pos (by rfl)]
        refine wp_store_row 58 (.tmp 2) (.tmp 47) rfl w.heap.size (rowOf 8 (fr8 k ss xa xb 0 0 0 (.slice none 0 0))) rfl rfl _ _ hRes (by rw [rowOf_size]; exact infoFr) (by rw [rowOf_size, rowOf_size]) (fr8_one _ _ _ _ _ _ _ _ _ _) ?_
        refine hK.out _ _ (hHeld.put _ (fr8_one _ _ _ _ _ _ _ _ _ _)) (fun hHeld => ?_)
        clear hK K hRes
        refine wpAnyH_ready (rs := [4]) (by kernel_rfl) (by simp) (AllReadyH.cons (o := { dst := some 3, op := _, type := _, pos := _, after := _, guard := _ }) rfl (fun K hK => ?_) AllReadyH.nil)
        go_simp
        refine hK.out _ _ hHeld (fun hHeld => ?_)
        clear hK K
        refine wpAnyH_done (by kernel_rfl) ?_ _
        go_wp2_with fail
        obtain ⟨f9, hRes9, hOne9⟩ := hHeld.res
        exact bodyPost_ret (results_cell_tmp Tryz.results190 _ _ w.heap.size 58 _ (0, 0) _ _ rfl rfl hRes9 Tryz.underlying58 rfl (by rw [rowOf_size]; exact infoFr)) rfl (RPost.no HR1.out ⟨f9, _, rfl, hOne9, hxe⟩ hHeld.but)

      | some y2 =>
        obtain ⟨⟨lo, hi⟩, l2⟩ := y2
        rw [hv2] at HR0
        dsimp only at HR0
        cases hv3 : dgP2 k l2 with
        | none =>
          rw [hv3] at HR0
          have HR1 : Hid (R = none) := HR0
          clear HR0
          go_wp2_with (first
            | (go_at_call 250; refine (rdig_any k rb g _ _ l2 _ hr3' (Nat.lt_of_lt_of_le hgl S3.but.size) hS3 hg9).mono ?_; rw [hv3]; rintro e w4 ⟨v4, rfl, ⟨xa, xb, xc, x, rfl, t, y, rfl⟩, hb4⟩; have E4q := S3.err.read hb4 n1 n2; have f4c := E4q.fb.cell (show 4 < 8 by omega); have f4d := E4q.fb.cell (show 5 < 8 by omega); have f4e := E4q.fb.cell (show 6 < 8 by omega); have f4f := E4q.fb.free; have E4 := ((E4q.set (f' := fr8 k ss lo hi xa 0 0 (.slice none 0 0)) 4 (.int .u8 xa) (fun i hi => by match i, hi with | 0, _ => rfl | 1, _ => rfl | 2, _ => rfl | 3, _ => rfl | 4, _ => rfl | 5, _ => rfl | 6, _ => rfl | 7, _ => rfl)).set (f' := fr8 k ss lo hi xa xb 0 (.slice none 0 0)) 5 (.int .u8 xb) (fun i hi => by match i, hi with | 0, _ => rfl | 1, _ => rfl | 2, _ => rfl | 3, _ => rfl | 4, _ => rfl | 5, _ => rfl | 6, _ => rfl | 7, _ => rfl)).set (f' := fr8 k ss lo hi xa xb xc (.slice none 0 0)) 6 (.int .u8 xc) (fun i hi => by match i, hi with | 0, _ => rfl | 1, _ => rfl | 2, _ => rfl | 3, _ => rfl | 4, _ => rfl | 5, _ => rfl | 6, _ => rfl | 7, _ => rfl))
            | (go_at_call 249; refine (rrng_any k rb g _ _ l1 _ hr2' hS2 hg9).mono ?_; rw [hv2]; rintro e w3 ⟨v3, rfl, ⟨rfl, off3, cap3, hr3⟩, hb3⟩; have S3q := S2.read hb3 hr3 n1 n2; have f3c := S3q.fb.cell (show 2 < 8 by omega); have f3d := S3q.fb.cell (show 3 < 8 by omega); have f3f := S3q.fb.free; have S3 := (S3q.set (f' := fr8 k ss lo 0 0 0 0 (.slice none 0 0)) 2 (.int .u64 lo) n2 n3 (fun i hi => by match i, hi with | 0, _ => rfl | 1, _ => rfl | 2, _ => rfl | 3, _ => rfl | 4, _ => rfl | 5, _ => rfl | 6, _ => rfl | 7, _ => rfl)).set (f' := fr8 k ss lo hi 0 0 0 (.slice none 0 0)) 3 (.int .u64 hi) n2 n3 (fun i hi => by match i, hi with | 0, _ => rfl | 1, _ => rfl | 2, _ => rfl | 3, _ => rfl | 4, _ => rfl | 5, _ => rfl | 6, _ => rfl | 7, _ => rfl); obtain ⟨off3', cap3', hr3'⟩ := S3.rd; have hS3 := sents_but hS S3.but hg9; have f30 : World.cell? _ ⟨w.heap.size + 1, 0, none⟩ = some (.int .i64 k) := S3.fb.cell (show 0 < 8 by omega))
            | (go_at_call 248; refine (rvar_any _ rb g _ _ l _ hr1 hS1 hg9).mono ?_; rw [hv1]; rintro e w2 ⟨⟨rfl, off2, cap2, hr2⟩, hb2, hs2⟩; have S2q := S1.read hb2 hr2 n1 n2; have f2c := S2q.fb.cell (show 1 < 8 by omega); have f2f := S2q.fb.free 1; have S2 := S2q.set (f' := fr8 k ss 0 0 0 0 0 (.slice none 0 0)) 1 (.int .u32 ss) n2 n3 (fun i hi => by match i, hi with | 0, _ => rfl | 1, _ => rfl | 2, _ => rfl | 3, _ => rfl | 4, _ => rfl | 5, _ => rfl | 6, _ => rfl | 7, _ => rfl); obtain ⟨off2', cap2', hr2'⟩ := S2.rd; have hS2 := sents_but hS S2.but hg9; have f20 : World.cell? _ ⟨w.heap.size + 1, 0, none⟩ = some (.int .i64 k) := S2.fb.cell (show 0 < 8 by omega))
            | (go_at_call 247; refine (next_cons rb g _ _ k l _ h0).mono ?_; rintro e w1 ⟨rfl, h1, hb1, hs1⟩; have S1q := S0.read hb1 h1 n1 n2; have f1c := S1q.fb.cell (show 0 < 8 by omega); have f1f := S1q.fb.free 0; have S1 := S1q.set (f' := fr8 k 0 0 0 0 0 0 (.slice none 0 0)) 0 (.int .i64 k) n2 n3 (fun i hi => by match i, hi with | 0, _ => rfl | 1, _ => rfl | 2, _ => rfl | 3, _ => rfl | 4, _ => rfl | 5, _ => rfl | 6, _ => rfl | 7, _ => rfl); obtain ⟨off1, cap1, hr1⟩ := S1.rd; have hS1 := sents_but hS S1.but hg9))
          refine wp_region_held_drew (S := fun w' => ErS w w' rb (fr8 k ss lo hi xa xb xc (.slice none 0 0))) (by kernel_rfl) E4.drew (fun hHeld => ?_)
          generalize World.drew _ = wD at hHeld ⊢
          refine wpAnyH_take (i := 0) (oi := { dst := some 60, op := _, type := _, pos := _, after := _, guard := _ }) rfl (by kernel_rfl) (by kernel_rfl) (by kernel_rfl) (fun _ _ _ h => h) (Or.inl ⟨by rfl, fun w hS => by obtain ⟨c0, c1, c2, c3, c4, c5, c6, c7⟩ := hS.cells; go_simp; rfl⟩) hHeld ?_
          simp only [Act.put, List.setIfInBounds_toArray, List.set_cons_zero, List.set_cons_succ]
          refine wpAnyH_take (i := 1) (oi := { dst := some 61, op := _, type := _, pos := _, after := _, guard := _ }) rfl (by kernel_rfl) (by kernel_rfl) (by kernel_rfl) (fun _ _ _ h => h) (Or.inl ⟨by rfl, fun w _ => by go_simp; rfl⟩) hHeld ?_
          simp only [Act.put, List.setIfInBounds_toArray, List.set_cons_zero, List.set_cons_succ]
          refine wpAnyH_ready (rs := [2]) (by kernel_rfl) (by simp) (AllReadyH.cons (o := { dst := some 62, op := _, type := _, pos := _, after := _, guard := _ }) rfl (fun K hK => ?_) AllReadyH.nil)
          go_simp
          refine (in_err _ _ ⟨_, _, rfl⟩ _).mono ?_
          rintro e w5 ⟨⟨xe, rfl, hxe⟩, hb5⟩
          refine hK.out _ _ (hHeld.kept hb5) (fun hHeld => ?_)
          clear hK K
          refine wpAnyH_ready (rs := [3]) (by kernel_rfl) (by simp) (AllReadyH.cons (o := { dst := none, op := _, type := _, pos := _, after := _, guard := _ }) rfl (fun K hK => ?_) AllReadyH.nil)
          obtain ⟨f0, hRes, -⟩ := hHeld.res
          rw [if_pos (by rfl)]
          refine wp_store_row 58 (.tmp 2) (.tmp 60) rfl w.heap.size (rowOf 8 (fr8 k ss lo hi xa xb xc (.slice none 0 0))) rfl rfl _ _ hRes (by rw [rowOf_size]; exact infoFr) (by rw [rowOf_size, rowOf_size]) (fr8_one _ _ _ _ _ _ _ _ _ _) ?_
          refine hK.out _ _ (hHeld.put _ (fr8_one _ _ _ _ _ _ _ _ _ _)) (fun hHeld => ?_)
          clear hK K hRes
          refine wpAnyH_ready (rs := [4]) (by kernel_rfl) (by simp) (AllReadyH.cons (o := { dst := some 3, op := _, type := _, pos := _, after := _, guard := _ }) rfl (fun K hK => ?_) AllReadyH.nil)
          go_simp
          refine hK.out _ _ hHeld (fun hHeld => ?_)
          clear hK K
          refine wpAnyH_done (by kernel_rfl) ?_ _
          go_wp2_with fail
          obtain ⟨f9, hRes9, hOne9⟩ := hHeld.res
          exact bodyPost_ret (results_cell_tmp Tryz.results190 _ _ w.heap.size 58 _ (0, 0) _ _ rfl rfl hRes9 Tryz.underlying58 rfl (by rw [rowOf_size]; exact infoFr)) rfl (RPost.no HR1.out ⟨f9, _, rfl, hOne9, hxe⟩ hHeld.but)

        | some y3 =>
          obtain ⟨⟨da, db, dc⟩, l3⟩ := y3
          rw [hv3] at HR0
          dsimp only at HR0
          cases hv4 : opsP k l3 with
          | none =>
            rw [hv4] at HR0
            have HR1 : Hid (R = none) := HR0
            clear HR0
            go_wp2_with (first
              | (go_at_call 251; refine (rops_any k rb g _ _ l3 _ hr4' (Nat.lt_of_lt_of_le hgl S4.but.size) hS4 hT4 hg9).mono ?_; rw [hv4]; rintro e w5 ⟨v5, rfl, ⟨x, rfl, t, y, rfl⟩, hb5⟩; have E5q := S4.err.read hb5 n1 n2; have f5c := E5q.fb.cell (show 7 < 8 by omega); have f5f := E5q.fb.free 7; have E5 := E5q.set (f' := fr8 k ss lo hi da db dc (.slice none 0 0)) 7 (.slice none 0 0) (fun i hi => by match i, hi with | 0, _ => rfl | 1, _ => rfl | 2, _ => rfl | 3, _ => rfl | 4, _ => rfl | 5, _ => rfl | 6, _ => rfl | 7, _ => rfl))
              | (go_at_call 250; refine (rdig_any k rb g _ _ l2 _ hr3' (Nat.lt_of_lt_of_le hgl S3.but.size) hS3 hg9).mono ?_; rw [hv3]; rintro e w4 ⟨v4, rfl, ⟨rfl, off4, cap4, hr4⟩, hb4⟩; have S4q := S3.read hb4 hr4 n1 n2; have f4c := S4q.fb.cell (show 4 < 8 by omega); have f4d := S4q.fb.cell (show 5 < 8 by omega); have f4e := S4q.fb.cell (show 6 < 8 by omega); have f4f := S4q.fb.free; have S4 := ((S4q.set (f' := fr8 k ss lo hi da 0 0 (.slice none 0 0)) 4 (.int .u8 da) n2 n3 (fun i hi => by match i, hi with | 0, _ => rfl | 1, _ => rfl | 2, _ => rfl | 3, _ => rfl | 4, _ => rfl | 5, _ => rfl | 6, _ => rfl | 7, _ => rfl)).set (f' := fr8 k ss lo hi da db 0 (.slice none 0 0)) 5 (.int .u8 db) n2 n3 (fun i hi => by match i, hi with | 0, _ => rfl | 1, _ => rfl | 2, _ => rfl | 3, _ => rfl | 4, _ => rfl | 5, _ => rfl | 6, _ => rfl | 7, _ => rfl)).set (f' := fr8 k ss lo hi da db dc (.slice none 0 0)) 6 (.int .u8 dc) n2 n3 (fun i hi => by match i, hi with | 0, _ => rfl | 1, _ => rfl | 2, _ => rfl | 3, _ => rfl | 4, _ => rfl | 5, _ => rfl | 6, _ => rfl | 7, _ => rfl); obtain ⟨off4', cap4', hr4'⟩ := S4.rd; have hS4 := sents_but hS S4.but hg9; have hT4 := tens_but hT S4.but hg9; have f40 : World.cell? _ ⟨w.heap.size + 1, 0, none⟩ = some (.int .i64 k) := S4.fb.cell (show 0 < 8 by omega))
              | (go_at_call 249; refine (rrng_any k rb g _ _ l1 _ hr2' hS2 hg9).mono ?_; rw [hv2]; rintro e w3 ⟨v3, rfl, ⟨rfl, off3, cap3, hr3⟩, hb3⟩; have S3q := S2.read hb3 hr3 n1 n2; have f3c := S3q.fb.cell (show 2 < 8 by omega); have f3d := S3q.fb.cell (show 3 < 8 by omega); have f3f := S3q.fb.free; have S3 := (S3q.set (f' := fr8 k ss lo 0 0 0 0 (.slice none 0 0)) 2 (.int .u64 lo) n2 n3 (fun i hi => by match i, hi with | 0, _ => rfl | 1, _ => rfl | 2, _ => rfl | 3, _ => rfl | 4, _ => rfl | 5, _ => rfl | 6, _ => rfl | 7, _ => rfl)).set (f' := fr8 k ss lo hi 0 0 0 (.slice none 0 0)) 3 (.int .u64 hi) n2 n3 (fun i hi => by match i, hi with | 0, _ => rfl | 1, _ => rfl | 2, _ => rfl | 3, _ => rfl | 4, _ => rfl | 5, _ => rfl | 6, _ => rfl | 7, _ => rfl); obtain ⟨off3', cap3', hr3'⟩ := S3.rd; have hS3 := sents_but hS S3.but hg9; have f30 : World.cell? _ ⟨w.heap.size + 1, 0, none⟩ = some (.int .i64 k) := S3.fb.cell (show 0 < 8 by omega))
              | (go_at_call 248; refine (rvar_any _ rb g _ _ l _ hr1 hS1 hg9).mono ?_; rw [hv1]; rintro e w2 ⟨⟨rfl, off2, cap2, hr2⟩, hb2, hs2⟩; have S2q := S1.read hb2 hr2 n1 n2; have f2c := S2q.fb.cell (show 1 < 8 by omega); have f2f := S2q.fb.free 1; have S2 := S2q.set (f' := fr8 k ss 0 0 0 0 0 (.slice none 0 0)) 1 (.int .u32 ss) n2 n3 (fun i hi => by match i, hi with | 0, _ => rfl | 1, _ => rfl | 2, _ => rfl | 3, _ => rfl | 4, _ => rfl | 5, _ => rfl | 6, _ => rfl | 7, _ => rfl); obtain ⟨off2', cap2', hr2'⟩ := S2.rd; have hS2 := sents_but hS S2.but hg9; have f20 : World.cell? _ ⟨w.heap.size + 1, 0, none⟩ = some (.int .i64 k) := S2.fb.cell (show 0 < 8 by omega))
              | (go_at_call 247; refine (next_cons rb g _ _ k l _ h0).mono ?_; rintro e w1 ⟨rfl, h1, hb1, hs1⟩; have S1q := S0.read hb1 h1 n1 n2; have f1c := S1q.fb.cell (show 0 < 8 by omega); have f1f := S1q.fb.free 0; have S1 := S1q.set (f' := fr8 k 0 0 0 0 0 0 (.slice none 0 0)) 0 (.int .i64 k) n2 n3 (fun i hi => by match i, hi with | 0, _ => rfl | 1, _ => rfl | 2, _ => rfl | 3, _ => rfl | 4, _ => rfl | 5, _ => rfl | 6, _ => rfl | 7, _ => rfl); obtain ⟨off1, cap1, hr1⟩ := S1.rd; have hS1 := sents_but hS S1.but hg9))
            refine wp_region_held_drew (S := fun w' => ErS w w' rb (fr8 k ss lo hi da db dc (.slice none 0 0))) (by kernel_rfl) E5.drew (fun hHeld => ?_)
            generalize World.drew _ = wD at hHeld ⊢
            refine wpAnyH_take (i := 0) (oi := { dst := some 73, op := _, type := _, pos := _, after := _, guard := _ }) rfl (by kernel_rfl) (by kernel_rfl) (by kernel_rfl) (fun _ _ _ h => h) (Or.inl ⟨by rfl, fun w hS => by obtain ⟨c0, c1, c2, c3, c4, c5, c6, c7⟩ := hS.cells; go_simp; rfl⟩) hHeld ?_
            simp only [Act.put, List.setIfInBounds_toArray, List.set_cons_zero, List.set_cons_succ]
            refine wpAnyH_take (i := 1) (oi := { dst := some 74, op := _, type := _, pos := _, after := _, guard := _ }) rfl (by kernel_rfl) (by kernel_rfl) (by kernel_rfl) (fun _ _ _ h => h) (Or.inl ⟨by rfl, fun w _ => by go_simp; rfl⟩) hHeld ?_
            simp only [Act.put, List.setIfInBounds_toArray, List.set_cons_zero, List.set_cons_succ]
            refine wpAnyH_ready (rs := [2]) (by kernel_rfl) (by simp) (AllReadyH.cons (o := { dst := some 75, op := _, type := _, pos := _, after := _, guard := _ }) rfl (fun K hK => ?_) AllReadyH.nil)
            go_simp
            refine (in_err _ _ ⟨_, _, rfl⟩ _).mono ?_
            rintro e w5 ⟨⟨xe, rfl, hxe⟩, hb5⟩
            refine hK.out _ _ (hHeld.kept hb5) (fun hHeld => ?_)
            clear hK K
            refine wpAnyH_ready (rs := [3]) (by kernel_rfl) (by simp) (AllReadyH.cons (o := { dst := none, op := _, type := _, pos := _, after := _, guard := _ }) rfl (fun K hK => ?_) AllReadyH.nil)
            obtain ⟨f0, hRes, -⟩ := hHeld.res
            rw [if_pos (by rfl)]
            refine wp_store_row 58 (.tmp 2) (.tmp 73) rfl w.heap.size (rowOf 8 (fr8 k ss lo hi da db dc (.slice none 0 0))) rfl rfl _ _ hRes (by rw [rowOf_size]; exact infoFr) (by rw [rowOf_size, rowOf_size]) (fr8_one _ _ _ _ _ _ _ _ _ _) ?_
            refine hK.out _ _ (hHeld.put _ (fr8_one _ _ _ _ _ _ _ _ _ _)) (fun hHeld => ?_)
            clear hK K hRes
            refine wpAnyH_ready (rs := [4]) (by kernel_rfl) (by simp) (AllReadyH.cons (o := { dst := some 3, op := _, type := _, pos := _, after := _, guard := _ }) rfl (fun K hK => ?_) AllReadyH.nil)
            go_simp
            refine hK.out _ _ hHeld (fun hHeld => ?_)
            clear hK K
            refine wpAnyH_done (by kernel_rfl) ?_ _
            go_wp2_with fail
            obtain ⟨f9, hRes9, hOne9⟩ := hHeld.res
            exact bodyPost_ret (results_cell_tmp Tryz.results190 _ _ w.heap.size 58 _ (0, 0) _ _ rfl rfl hRes9 Tryz.underlying58 rfl (by rw [rowOf_size]; exact infoFr)) rfl (RPost.no HR1.out ⟨f9, _, rfl, hOne9, hxe⟩ hHeld.but)

          | some y4 =>
            obtain ⟨os, l4⟩ := y4
            rw [hv4] at HR0
            dsimp only at HR0
            have HR1 : Hid (R = _) := HR0
            clear HR0
            go_wp2_with (first
              | (go_at_call 251; refine (rops_any k rb g _ _ l3 _ hr4' (Nat.lt_of_lt_of_le hgl S4.but.size) hS4 hT4 hg9).mono ?_; rw [hv4]; rintro e w5 ⟨v5, rfl, ⟨⟨sl, rfl, hown⟩, off5, cap5, hr5⟩, hb5⟩; obtain ⟨ao, co, rfl, -⟩ := own_viewN hown; have S5q := S4.read hb5 hr5 n1 n2; have f5c := S5q.fb.cell (show 7 < 8 by omega); have f5f := S5q.fb.free 7; have S5 := S5q.set (f' := fr8 k ss lo hi da db dc (.slice ao os.length co)) 7 (.slice ao os.length co) n2 n3 (fun i hi => by match i, hi with | 0, _ => rfl | 1, _ => rfl | 2, _ => rfl | 3, _ => rfl | 4, _ => rfl | 5, _ => rfl | 6, _ => rfl | 7, _ => rfl); obtain ⟨j0, j1, j2, j3, j4, j5, j6, j7⟩ := S5.cells; simp only [fr8] at j0 j1 j2 j3 j4 j5 j6 j7; have R5 := S5.res)
              | (go_at_call 250; refine (rdig_any k rb g _ _ l2 _ hr3' (Nat.lt_of_lt_of_le hgl S3.but.size) hS3 hg9).mono ?_; rw [hv3]; rintro e w4 ⟨v4, rfl, ⟨rfl, off4, cap4, hr4⟩, hb4⟩; have S4q := S3.read hb4 hr4 n1 n2; have f4c := S4q.fb.cell (show 4 < 8 by omega); have f4d := S4q.fb.cell (show 5 < 8 by omega); have f4e := S4q.fb.cell (show 6 < 8 by omega); have f4f := S4q.fb.free; have S4 := ((S4q.set (f' := fr8 k ss lo hi da 0 0 (.slice none 0 0)) 4 (.int .u8 da) n2 n3 (fun i hi => by match i, hi with | 0, _ => rfl | 1, _ => rfl | 2, _ => rfl | 3, _ => rfl | 4, _ => rfl | 5, _ => rfl | 6, _ => rfl | 7, _ => rfl)).set (f' := fr8 k ss lo hi da db 0 (.slice none 0 0)) 5 (.int .u8 db) n2 n3 (fun i hi => by match i, hi with | 0, _ => rfl | 1, _ => rfl | 2, _ => rfl | 3, _ => rfl | 4, _ => rfl | 5, _ => rfl | 6, _ => rfl | 7, _ => rfl)).set (f' := fr8 k ss lo hi da db dc (.slice none 0 0)) 6 (.int .u8 dc) n2 n3 (fun i hi => by match i, hi with | 0, _ => rfl | 1, _ => rfl | 2, _ => rfl | 3, _ => rfl | 4, _ => rfl | 5, _ => rfl | 6, _ => rfl | 7, _ => rfl); obtain ⟨off4', cap4', hr4'⟩ := S4.rd; have hS4 := sents_but hS S4.but hg9; have hT4 := tens_but hT S4.but hg9; have f40 : World.cell? _ ⟨w.heap.size + 1, 0, none⟩ = some (.int .i64 k) := S4.fb.cell (show 0 < 8 by omega))
              | (go_at_call 249; refine (rrng_any k rb g _ _ l1 _ hr2' hS2 hg9).mono ?_; rw [hv2]; rintro e w3 ⟨v3, rfl, ⟨rfl, off3, cap3, hr3⟩, hb3⟩; have S3q := S2.read hb3 hr3 n1 n2; have f3c := S3q.fb.cell (show 2 < 8 by omega); have f3d := S3q.fb.cell (show 3 < 8 by omega); have f3f := S3q.fb.free; have S3 := (S3q.set (f' := fr8 k ss lo 0 0 0 0 (.slice none 0 0)) 2 (.int .u64 lo) n2 n3 (fun i hi => by match i, hi with | 0, _ => rfl | 1, _ => rfl | 2, _ => rfl | 3, _ => rfl | 4, _ => rfl | 5, _ => rfl | 6, _ => rfl | 7, _ => rfl)).set (f' := fr8 k ss lo hi 0 0 0 (.slice none 0 0)) 3 (.int .u64 hi) n2 n3 (fun i hi => by match i, hi with | 0, _ => rfl | 1, _ => rfl | 2, _ => rfl | 3, _ => rfl | 4, _ => rfl | 5, _ => rfl | 6, _ => rfl | 7, _ => rfl); obtain ⟨off3', cap3', hr3'⟩ := S3.rd; have hS3 := sents_but hS S3.but hg9; have f30 : World.cell? _ ⟨w.heap.size + 1, 0, none⟩ = some (.int .i64 k) := S3.fb.cell (show 0 < 8 by omega))
              | (go_at_call 248; refine (rvar_any _ rb g _ _ l _ hr1 hS1 hg9).mono ?_; rw [hv1]; rintro e w2 ⟨⟨rfl, off2, cap2, hr2⟩, hb2, hs2⟩; have S2q := S1.read hb2 hr2 n1 n2; have f2c := S2q.fb.cell (show 1 < 8 by omega); have f2f := S2q.fb.free 1; have S2 := S2q.set (f' := fr8 k ss 0 0 0 0 0 (.slice none 0 0)) 1 (.int .u32 ss) n2 n3 (fun i hi => by match i, hi with | 0, _ => rfl | 1, _ => rfl | 2, _ => rfl | 3, _ => rfl | 4, _ => rfl | 5, _ => rfl | 6, _ => rfl | 7, _ => rfl); obtain ⟨off2', cap2', hr2'⟩ := S2.rd; have hS2 := sents_but hS S2.but hg9; have f20 : World.cell? _ ⟨w.heap.size + 1, 0, none⟩ = some (.int .i64 k) := S2.fb.cell (show 0 < 8 by omega))
              | (go_at_call 247; refine (next_cons rb g _ _ k l _ h0).mono ?_; rintro e w1 ⟨rfl, h1, hb1, hs1⟩; have S1q := S0.read hb1 h1 n1 n2; have f1c := S1q.fb.cell (show 0 < 8 by omega); have f1f := S1q.fb.free 0; have S1 := S1q.set (f' := fr8 k 0 0 0 0 0 0 (.slice none 0 0)) 0 (.int .i64 k) n2 n3 (fun i hi => by match i, hi with | 0, _ => rfl | 1, _ => rfl | 2, _ => rfl | 3, _ => rfl | 4, _ => rfl | 5, _ => rfl | 6, _ => rfl | 7, _ => rfl); obtain ⟨off1, cap1, hr1⟩ := S1.rd; have hS1 := sents_but hS S1.but hg9)
              | (refine wpList_store_row rfl 58 (.tmp 2) (.tmp 76) rfl w.heap.size _ rfl rfl _ _ R5 (by exact infoFr) (by rw [rowOf_size]; rfl) (by simp [Value.oneCell']) ?_))
            obtain ⟨off6, cap6, hr6⟩ := S5.rd
            have hS4s := S4.but.size
            have hf4 := S4.fb.lt
            have hw6 : OwnO ((w5.setCell ⟨w.heap.size + 1, 7, none⟩ (.slice ao os.length co)).setRow w.heap.size (rowOf 8 (fr8 k ss lo hi da db dc (.slice ao os.length co)))) w.heap.size (.slice ao os.length co) os := by
              refine OwnO.base (own_frame hown fun y hy => ?_) hS4s
              have hyl := (hown.lt y hy).1
              exact (setRow_other _ _ _ _ (by omega)).trans (heap_setCell_other _ _ _ _ (show y ≠ w.heap.size + 1 by omega))
            exact bodyPost_ret (results_cell_tmp Tryz.results190 _ _ w.heap.size 58 _ (0, 0) _ _ rfl rfl (R5.setRow (fr8 k ss lo hi da db dc (.slice ao os.length co))) Tryz.underlying58 rfl (by rw [rowOf_size]; exact infoFr)) rfl (RPost.yes HR1.out ⟨_, rfl, hw6⟩ (hr6.setRow n1 n4 _) (S5.but.setRow (Nat.le_refl _) _))
end Go.Proofs.YtgccjefbedpmpaaGreatDoor
namespace Go.Proofs.YtgccjefbedpmpaaGreatDoor
open Go.RowKit
/-- A frame, as the program reads it with its check. -/
def rdFr (l : List Int) : Option Frm :=
  if l.length < 3 then none else match frP (l.take (l.length - 3)) with
    | some (f, []) => if l.drop (l.length - 3) = chk (strOfNums (l.take (l.length - 3))) then some f else none
    | _ => none
/-- Bytes that were handed in lie in block g, with room behind them. -/
structure In (w : World) (g cap : Nat) (l : List Int) : Prop where
  bytes : ∀ i (h : i < l.length), w.cell? ⟨g, i, none⟩ = some (.int .u8 l[i])
  byt : Byt l
  lt : g < w.heap.size
  room : l.length < cap
  big : cap ≤ 140737488355328
theorem In.below {w w' : World} {g cap : Nat} {l : List Int} (h : In w g cap l) (hb : Below w.heap.size w w') : In w' g cap l :=
  ⟨fun i hi => (hb.cell h.lt).trans (h.bytes i hi), h.byt, Nat.lt_of_lt_of_le h.lt hb.size, h.room, h.big⟩
def FPost (R : Option Frm) (w : World) (e : Ending) (w' : World) : Prop :=
  ∃ v, e = .returned v ∧ (match R with
    | none => bFr v
    | some f => gFr w.heap.size f w' v) ∧ Below w.heap.size w w'
theorem q3_kept {w5 W w2 : World} {g N : Nat} {x y z : Int} (h : Below w5.heap.size w5 W ∧ World.cell? W ⟨g, N, none⟩ = some (.int .u8 x) ∧ World.cell? W ⟨g, N + 1, none⟩ = some (.int .u8 y) ∧ World.cell? W ⟨g, N + 2, none⟩ = some (.int .u8 z)) (hb : Below W.heap.size W w2) : Below w5.heap.size w5 w2 ∧ World.cell? w2 ⟨g, N, none⟩ = some (.int .u8 x) ∧ World.cell? w2 ⟨g, N + 1, none⟩ = some (.int .u8 y) ∧ World.cell? w2 ⟨g, N + 2, none⟩ = some (.int .u8 z) := by
  obtain ⟨h0, h1, h2, h3⟩ := h
  exact ⟨h0.trans (hb.mono h0.size), (hb.cell (block_lt_of_cell h1)).trans h1, (hb.cell (block_lt_of_cell h2)).trans h2, (hb.cell (block_lt_of_cell h3)).trans h3⟩
theorem q3_drew {w5 W : World} {g N : Nat} {x y z : Int} (h : Below w5.heap.size w5 W ∧ World.cell? W ⟨g, N, none⟩ = some (.int .u8 x) ∧ World.cell? W ⟨g, N + 1, none⟩ = some (.int .u8 y) ∧ World.cell? W ⟨g, N + 2, none⟩ = some (.int .u8 z)) : Below w5.heap.size w5 W.drew ∧ World.cell? W.drew ⟨g, N, none⟩ = some (.int .u8 x) ∧ World.cell? W.drew ⟨g, N + 1, none⟩ = some (.int .u8 y) ∧ World.cell? W.drew ⟨g, N + 2, none⟩ = some (.int .u8 z) := ⟨h.1.drew, h.2⟩
theorem q3_b {w5 W : World} {g N : Nat} {x y z : Int} (h : Below w5.heap.size w5 W ∧ World.cell? W ⟨g, N, none⟩ = some (.int .u8 x) ∧ World.cell? W ⟨g, N + 1, none⟩ = some (.int .u8 y) ∧ World.cell? W ⟨g, N + 2, none⟩ = some (.int .u8 z)) : Below w5.heap.size w5 W := h.1
theorem arrAt (g N c : Nat) (W : World) : (Instr.arrayAt 49 (.slice (some ⟨g, N, none⟩) 3 c)).run Tryz.prog W = .ok (.pointer (some ⟨g, N, none⟩)) W := by
  simp [Instr.arrayAt, underlying, Tryz.underlying49]
theorem FPost.no {R : Option Frm} {w w' : World} {v : Value} (hR : R = none) (hv : bFr v) (hb : Below w.heap.size w w') : FPost R w (.returned v) w' := by subst hR; exact ⟨_, rfl, hv, hb⟩
theorem FPost.yes {R : Option Frm} {w w' : World} {v : Value} {f : Frm} (hR : R = some f) (hv : gFr w.heap.size f w' v) (hb : Below w.heap.size w w') : FPost R w (.returned v) w' := by subst hR; exact ⟨_, rfl, hv, hb⟩
theorem But.toBelow {w w' : World} {rb B : Nat} (h : But (fun x => x = rb) w w') (h1 : B ≤ rb) (h2 : B ≤ w.heap.size) : Below B w w' := ⟨h.os, h.tape, h.output, h.size, fun i hi => h.block i (by omega) (by omega)⟩
set_option maxRecDepth 100000 in
set_option maxHeartbeats 4000000 in
theorem rfr_any (g cap : Nat) (l : List Int) (w : World) (h : In w g cap l) (hE : Env w) (hg9 : 15 ≤ w.heap.size) :
    Calls Tryz.prog 109 #[.slice (some ⟨g, 0, none⟩) l.length cap] w fun e w' => FPost (rdFr l) w e w' := by
  have hz : Below w.heap.size w (w.alloc (.cells #[.int .i64 0, .int .u32 0, .int .u64 0, .int .u64 0, .int .u8 0, .int .u8 0, .int .u8 0, .slice none 0 0] 58)) := (Below.refl _ _).alloc (Nat.le_refl _) _
  have hroom := h.room
  have hbig := h.big
  by_cases h3 : l.length < 3
  · have HR : Hid (rdFr l = none) := by unfold rdFr; rw [if_pos h3]; exact rfl
    generalize rdFr l = R at *
    have l3 : (l.length : Int) < 3 := by omega
    obtain ⟨-, -, -, -, -, ⟨aS, sS⟩, -, -, -⟩ := hE.sents.below hz
    go_enter Tryz.func109, Tryz.ntmps109
    go_wp2_with (first
      | (go_at_call 120; refine (in_err _ _ ⟨_, _, rfl⟩ _).mono ?_; rintro e w2 ⟨⟨x, rfl, hx⟩, hb2⟩; have R2 := (RowIs.new w 58 8 (fr8 0 0 0 0 0 0 0 (.slice none 0 0))).below hb2 (by simp))
      | (refine wpList_store_row rfl 58 (.tmp 2) (.tmp 13) rfl w.heap.size _ rfl rfl _ _ R2 (by exact infoFr) (by rw [rowOf_size]; rfl) (by simp [Value.oneCell']) ?_))
    have hb2' := hz.trans (hb2.mono (by simp))
    exact bodyPost_ret (results_cell_tmp Tryz.results109 _ _ w.heap.size 58 _ (0, 0) _ _ rfl rfl (R2.setRow (fr8 0 0 0 0 0 0 0 (.slice none 0 0))) Tryz.underlying58 rfl (by rw [rowOf_size]; exact infoFr)) rfl (FPost.no HR.out ⟨_, _, rfl, fr8_one _ _ _ _ _ _ _ _ _ _, hx⟩ (below_setRow' hb2' (Nat.le_refl _) _))
  · obtain ⟨N, hN⟩ : ∃ N, l.length = N + 3 := ⟨l.length - 3, by omega⟩
    have HR : rdFr l = (match frP (l.take N) with
      | some (f, []) => if l.drop N = chk (strOfNums (l.take N)) then some f else none
      | _ => none) := by unfold rdFr; rw [if_neg h3, show l.length - 3 = N by omega]
    generalize rdFr l = R at *
    have l3 : ¬ ((N : Int) + 3) < 3 := by omega
    have l4 : (N : Int) ≤ (cap : Int) := by omega
    have l5 : ¬ cap = N := by omega
    rw [hN] at hroom ⊢
    go_enter Tryz.func109, Tryz.ntmps109
    go_wp2_with fail
    go_quiet (fail)
    have hq0 : Below w.heap.size w ((w.alloc (.cells #[.int .i64 0, .int .u32 0, .int .u64 0, .int .u64 0, .int .u8 0, .int .u8 0, .int .u8 0, .slice none 0 0] 58)).drewN nq) := below_drewN hz nq
    have hB1 : Below w.heap.size w (((w.alloc (.cells #[.int .i64 0, .int .u32 0, .int .u64 0, .int .u64 0, .int .u8 0, .int .u8 0, .int .u8 0, .slice none 0 0] 58)).drewN nq).alloc (.cells #[.slice (some ⟨g, 0, none⟩) N cap] 269)) := hq0.alloc hq0.size _
    have hsz1 : (((w.alloc (.cells #[.int .i64 0, .int .u32 0, .int .u64 0, .int .u64 0, .int .u8 0, .int .u8 0, .int .u8 0, .slice none 0 0] 58)).drewN nq).alloc (.cells #[.slice (some ⟨g, 0, none⟩) N cap] 269)).heap.size = w.heap.size + 2 := by show ((w.alloc _).alloc _).heap.size = _; simp
    have R1 : RowIs (((w.alloc (.cells #[.int .i64 0, .int .u32 0, .int .u64 0, .int .u64 0, .int .u8 0, .int .u8 0, .int .u8 0, .slice none 0 0] 58)).drewN nq).alloc (.cells #[.slice (some ⟨g, 0, none⟩) N cap] 269)) w.heap.size 58 8 (fr8 0 0 0 0 0 0 0 (.slice none 0 0)) := ((RowIs.new w 58 8 (fr8 0 0 0 0 0 0 0 (.slice none 0 0))).drewM nq).below ((Below.refl _ _).alloc (Nat.le_refl _) _) (RowIs.new w 58 8 (fr8 0 0 0 0 0 0 0 (.slice none 0 0))).lt
    have T1 : RowIs (((w.alloc (.cells #[.int .i64 0, .int .u32 0, .int .u64 0, .int .u64 0, .int .u8 0, .int .u8 0, .int .u8 0, .slice none 0 0] 58)).drewN nq).alloc (.cells #[.slice (some ⟨g, 0, none⟩) N cap] 269)) (w.heap.size + 1) 269 1 (fun _ => .slice (some ⟨g, 0, none⟩) N cap) := by
      have := RowIs.new ((w.alloc (.cells #[.int .i64 0, .int .u32 0, .int .u64 0, .int .u64 0, .int .u8 0, .int .u8 0, .int .u8 0, .slice none 0 0] 58)).drewN nq) 269 1 (fun _ => .slice (some ⟨g, 0, none⟩) N cap)
      rw [show ((w.alloc (.cells #[.int .i64 0, .int .u32 0, .int .u64 0, .int .u64 0, .int .u8 0, .int .u8 0, .int .u8 0, .slice none 0 0] 58)).drewN nq).heap.size = w.heap.size + 1 by show (w.alloc _).heap.size = _; simp] at this
      exact this
    have hlt := h.lt
    have hD1 : Rd (((w.alloc (.cells #[.int .i64 0, .int .u32 0, .int .u64 0, .int .u64 0, .int .u8 0, .int .u8 0, .int .u8 0, .slice none 0 0] 58)).drewN nq).alloc (.cells #[.slice (some ⟨g, 0, none⟩) N cap] 269)) (w.heap.size + 1) g 0 cap (l.take N) := by
      have hl : (l.take N).length = N := by rw [List.length_take]; omega
      refine ⟨by rw [hl]; exact T1, by omega, by omega, fun i hi => ?_, fun x hx => h.byt x (List.mem_of_mem_take hx), by omega⟩
      rw [hB1.cell hlt, Nat.zero_add, h.bytes i (by omega)]
      simp
    have HP := rparts_any (w.heap.size + 1) g 0 cap (l.take N) _ hD1 (Nat.lt_of_lt_of_le hlt hB1.size) (hE.sents.below hB1) (hE.tens.below hB1) (by omega)
    cases hv : frP (l.take N) with
    | none =>
      rw [hv] at HP HR
      have HP' : Hid (Calls _ _ _ _ _) := HP
      have HR1 : Hid (R = none) := HR
      clear HP HR
      go_wp2_with (first
        | (go_at_call 190; refine HP'.out.mono ?_; rintro e w3 ⟨v3, rfl, ⟨f0, x, rfl, ho3, t, y, rfl⟩, hb3⟩; have F3 := RowIs.new w3 58 8 (fr8 0 0 0 0 0 0 0 (.slice none 0 0)); have R3q := R1.but hb3 (show ¬ w.heap.size = w.heap.size + 1 by omega); have hB3 := hB1.trans (hb3.toBelow (B := w.heap.size) (Nat.le_succ _) (by omega)); have hBA : Below w3.heap.size w3 ((w3.alloc (.cells (rowOf 8 (fr8 0 0 0 0 0 0 0 (.slice none 0 0))) 58)).setRow w3.heap.size (rowOf 8 f0)) := below_setRow' ((Below.refl _ _).alloc (Nat.le_refl _) _) (Nat.le_refl _) _; have R3 := R3q.below hBA R3q.lt; have hB4 := hB3.trans (hBA.mono hB3.size))
        | (refine wpList_store_row rfl 58 (.tmp 7) (.tmp 32) rfl w3.heap.size (rowOf 8 f0) rfl rfl _ _ F3 (by rw [rowOf_size]; exact infoFr) (by rw [rowOf_size, rowOf_size]) ho3 ?_)
        | (refine wpList_store_row rfl 58 (.tmp 2) (.tmp 36) rfl w.heap.size _ rfl rfl _ _ R3 (by exact infoFr) (by rw [rowOf_size]; rfl) (by simp [Value.oneCell']) ?_))
      exact bodyPost_ret (results_cell_tmp Tryz.results109 _ _ w.heap.size 58 _ (0, 0) _ _ rfl rfl (R3.setRow (fr8 0 0 0 0 0 0 0 (.slice none 0 0))) Tryz.underlying58 rfl (by rw [rowOf_size]; exact infoFr)) rfl (FPost.no HR1.out ⟨_, _, rfl, fr8_one _ _ _ _ _ _ _ _ _ _, _, _, rfl⟩ (below_setRow' hB4 (Nat.le_refl _) _))
    | some y =>
      obtain ⟨f, r⟩ := y
      rw [hv] at HP HR
      have HP' : Hid (Calls _ _ _ _ _) := HP
      clear HP
      cases r with
      | cons b r =>
        have HR1 : Hid (R = none) := HR
        clear HR
        go_wp2_with (first
          | (go_at_call 190; refine HP'.out.mono ?_; rintro e w3 ⟨v3, rfl, ⟨⟨sl, rfl, hown⟩, off3, cap3, hr3⟩, hb3⟩; obtain ⟨ao, co, rfl, -⟩ := own_viewN hown; have F3 := RowIs.new w3 58 8 (fr8 0 0 0 0 0 0 0 (.slice none 0 0)); have R3q := R1.but hb3 (show ¬ w.heap.size = w.heap.size + 1 by omega); have hB3 := hB1.trans (hb3.toBelow (B := w.heap.size) (Nat.le_succ _) (by omega)); have hBA : Below w3.heap.size w3 ((w3.alloc (.cells (rowOf 8 (fr8 0 0 0 0 0 0 0 (.slice none 0 0))) 58)).setRow w3.heap.size (rowOf 8 (fr8 f.kd f.ss f.lo f.hi f.d0 f.d1 f.d2 (.slice ao f.ops.length co)))) := below_setRow' ((Below.refl _ _).alloc (Nat.le_refl _) _) (Nat.le_refl _) _; have R3 := R3q.below hBA R3q.lt; have hB4 := hB3.trans (hBA.mono hB3.size); have hr4 := hr3.but hBA; have hS4 := hE.sents.below hB4)
          | (refine wpList_store_row rfl 58 (.tmp 7) (.tmp 32) rfl w3.heap.size (rowOf 8 (fr8 f.kd f.ss f.lo f.hi f.d0 f.d1 f.d2 (.slice ao f.ops.length co))) rfl rfl _ _ F3 (by rw [rowOf_size]; exact infoFr) (by rw [rowOf_size, rowOf_size]) (fr8_one _ _ _ _ _ _ _ _ _ _) ?_)
          | (go_at_call 191; refine (rend_cons _ g _ _ b r _ hr4 hS4 (by omega)).mono ?_; rintro e w5 ⟨⟨x, rfl, t, y, rfl⟩, hb5, hs5⟩; have R5 := R3.but hb5 (show ¬ w.heap.size = w.heap.size + 1 by omega); have hB5 := hB4.trans (hb5.toBelow (B := w.heap.size) (Nat.le_succ _) hB4.size))
          | (refine wpList_store_row rfl 58 (.tmp 2) (.tmp 42) rfl w.heap.size _ rfl rfl _ _ R5 (by exact infoFr) (by rw [rowOf_size]; rfl) (by simp [Value.oneCell']) ?_))
        exact bodyPost_ret (results_cell_tmp Tryz.results109 _ _ w.heap.size 58 _ (0, 0) _ _ rfl rfl (R5.setRow (fr8 0 0 0 0 0 0 0 (.slice none 0 0))) Tryz.underlying58 rfl (by rw [rowOf_size]; exact infoFr)) rfl (FPost.no HR1.out ⟨_, _, rfl, fr8_one _ _ _ _ _ _ _ _ _ _, _, _, rfl⟩ (below_setRow' hB5 (Nat.le_refl _) _))
      | nil =>
        go_wp2_with (first
          | (go_at_call 190; refine HP'.out.mono ?_; rintro e w3 ⟨v3, rfl, ⟨⟨sl, rfl, hown⟩, off3, cap3, hr3⟩, hb3⟩; obtain ⟨ao, co, rfl, -⟩ := own_viewN hown; have F3 := RowIs.new w3 58 8 (fr8 0 0 0 0 0 0 0 (.slice none 0 0)); have R3q := R1.but hb3 (show ¬ w.heap.size = w.heap.size + 1 by omega); have hB3 := hB1.trans (hb3.toBelow (B := w.heap.size) (Nat.le_succ _) (by omega)); have hBA : Below w3.heap.size w3 ((w3.alloc (.cells (rowOf 8 (fr8 0 0 0 0 0 0 0 (.slice none 0 0))) 58)).setRow w3.heap.size (rowOf 8 (fr8 f.kd f.ss f.lo f.hi f.d0 f.d1 f.d2 (.slice ao f.ops.length co)))) := below_setRow' ((Below.refl _ _).alloc (Nat.le_refl _) _) (Nat.le_refl _) _; have R3 := R3q.below hBA R3q.lt; have hB4 := hB3.trans (hBA.mono hB3.size); have hr4 := hr3.but hBA; have hS4 := hE.sents.below hB4)
          | (refine wpList_store_row rfl 58 (.tmp 7) (.tmp 32) rfl w3.heap.size (rowOf 8 (fr8 f.kd f.ss f.lo f.hi f.d0 f.d1 f.d2 (.slice ao f.ops.length co))) rfl rfl _ _ F3 (by rw [rowOf_size]; exact infoFr) (by rw [rowOf_size, rowOf_size]) (fr8_one _ _ _ _ _ _ _ _ _ _) ?_)
          | (go_at_call 191; refine (rend_nil _ g _ _ _ hr4 hS4).mono ?_; rintro e w5 ⟨rfl, hb5, hs5⟩; have R5 := R3.but hb5 (show ¬ w.heap.size = w.heap.size + 1 by omega); have hB5 := hB4.trans (hb5.toBelow (B := w.heap.size) (Nat.le_succ _) hB4.size)))
        have hI5 := h.below hB5
        have hE5 := hE.below hB5
        obtain ⟨x0, x1, x2, hdr⟩ : ∃ x0 x1 x2, l.drop N = [x0, x1, x2] := by
          have hl : (l.drop N).length = 3 := by rw [List.length_drop]; omega
          match hd : l.drop N, hl with
          | [a, b, c], _ => exact ⟨a, b, c, rfl⟩
        have hx : ∀ j (hj : N + j < l.length), l[N + j] = (l.drop N)[j]'(by rw [List.length_drop]; omega) := fun j hj => by rw [List.getElem_drop]
        have q0 : w5.cell? ⟨g, N, none⟩ = some (.int .u8 x0) := by have := hI5.bytes (N + 0) (by omega); rw [hx 0 (by omega)] at this; simpa [hdr] using this
        have q1 : w5.cell? ⟨g, N + 1, none⟩ = some (.int .u8 x1) := by have := hI5.bytes (N + 1) (by omega); rw [hx 1 (by omega)] at this; simpa [hdr] using this
        have q2 : w5.cell? ⟨g, N + 2, none⟩ = some (.int .u8 x2) := by have := hI5.bytes (N + 2) (by omega); rw [hx 2 (by omega)] at this; simpa [hdr] using this
        have hl : (l.take N).length = N := by rw [List.length_take]; omega
        have hbt : Byt (l.take N) := fun x hx => h.byt x (List.mem_of_mem_take hx)
        have HC : Hid (∀ W, Below w5.heap.size w5 W → Calls Tryz.prog 185 #[.slice (some ⟨g, 0, none⟩) N cap] W fun e w' => e = .returned (.agg #[.int .u8 (dig (strOfNums (l.take N)) 0), .int .u8 (dig (strOfNums (l.take N)) 1), .int .u8 (dig (strOfNums (l.take N)) 2)]) ∧ Below W.heap.size W w') := fun W hW => by
          have hEW := hE5.below hW
          refine checkOf_any _ _ W fun W' hW' => ?_
          have hEW' := hEW.below hW'
          have := shaB g 0 cap (l.take N) hbt W' hEW'.glt hEW'.table (fun i hi => by rw [hW'.cell (Nat.lt_of_lt_of_le hI5.lt hW.size), hW.cell hI5.lt, Nat.zero_add, hI5.bytes i (by omega)]; simp) (Nat.lt_of_lt_of_le hI5.lt (Nat.le_trans hW.size hW'.size)) (by omega) (by omega)
          rw [hl] at this
          exact this
        have hchk : chk (strOfNums (l.take N)) = [dig (strOfNums (l.take N)) 0, dig (strOfNums (l.take N)) 1, dig (strOfNums (l.take N)) 2] := rfl
        rw [hdr, hchk] at HR
        generalize dig (strOfNums (l.take N)) 0 = y0 at *
        generalize dig (strOfNums (l.take N)) 1 = y1 at *
        generalize dig (strOfNums (l.take N)) 2 = y2 at *
        have hS5 : Below w5.heap.size w5 w5 ∧ World.cell? w5 ⟨g, N, none⟩ = some (.int .u8 x0) ∧ World.cell? w5 ⟨g, N + 1, none⟩ = some (.int .u8 x1) ∧ World.cell? w5 ⟨g, N + 2, none⟩ = some (.int .u8 x2) := ⟨Below.refl _ _, q0, q1, q2⟩
        have lc : (3 : Int) ≤ ((cap - N : Nat) : Int) := by omega
        have har := fun W => arrAt g N (cap - N) W
        clear hx hchk q0 q1 q2 hI5 hdr
        by_cases hc : y0 = x0 ∧ y1 = x1 ∧ y2 = x2
        · obtain ⟨rfl, rfl, rfl⟩ := hc
          have heq : ∀ W, (Op.equalIn 10000 49 (.agg #[.int .u8 y0, .int .u8 y1, .int .u8 y2]) (.agg #[.int .u8 y0, .int .u8 y1, .int .u8 y2])).run Tryz.prog W = .ok true W := fun W => by have := eqArrG y0 y1 y2 y0 y1 y2 W; simpa using this
          go_region_held3 (fun w' => Below w5.heap.size w5 w' ∧ World.cell? w' ⟨g, N, none⟩ = some (.int .u8 y0) ∧ World.cell? w' ⟨g, N + 1, none⟩ = some (.int .u8 y1) ∧ World.cell? w' ⟨g, N + 2, none⟩ = some (.int .u8 y2)) (first | assumption | exact q3_drew hS5 | (refine q3_kept (q3_drew hS5) ?_; assumption) | (refine q3_kept ?_ ?_ <;> assumption)) ((go_at_call 185; refine (HC.out _ ?hQ).mono ?_; (case hQ => (first | exact (Below.refl _ _).drew | exact q3_b (g := g) (N := N) (x := y0) (y := y1) (z := y2) (by assumption))); rintro e w6 ⟨rfl, hb6⟩))
          all_goals (
            obtain ⟨hB6q, -, -, -⟩ := ‹Below w5.heap.size w5 w6 ∧ _›
            clear hb6
            have hB6 := hB5.trans (hB6q.mono hB5.size)
            have R6 := R5.below hB6q R5.lt
            have HR1 : Hid (R = some f) := (show R = some f by rw [HR]; simp)
            clear HR
            have F5 := (F3.setRow (fr8 f.kd f.ss f.lo f.hi f.d0 f.d1 f.d2 (.slice ao f.ops.length co))).but hb5 (show ¬ w3.heap.size = w.heap.size + 1 by have := hb3.size; omega)
            have F6 := F5.below hB6q F5.lt
            have j0 : w6.cell? ⟨w3.heap.size, 0, none⟩ = some (.int .i64 f.kd) := F6.cell (show 0 < 8 by omega)
            have j1 : w6.cell? ⟨w3.heap.size, 1, none⟩ = some (.int .u32 f.ss) := F6.cell (show 1 < 8 by omega)
            have j2 : w6.cell? ⟨w3.heap.size, 2, none⟩ = some (.int .u64 f.lo) := F6.cell (show 2 < 8 by omega)
            have j3 : w6.cell? ⟨w3.heap.size, 3, none⟩ = some (.int .u64 f.hi) := F6.cell (show 3 < 8 by omega)
            have j4 : w6.cell? ⟨w3.heap.size, 4, none⟩ = some (.int .u8 f.d0) := F6.cell (show 4 < 8 by omega)
            have j5 : w6.cell? ⟨w3.heap.size, 5, none⟩ = some (.int .u8 f.d1) := F6.cell (show 5 < 8 by omega)
            have j6 : w6.cell? ⟨w3.heap.size, 6, none⟩ = some (.int .u8 f.d2) := F6.cell (show 6 < 8 by omega)
            have j7 : w6.cell? ⟨w3.heap.size, 7, none⟩ = some (.slice ao f.ops.length co) := F6.cell (show 7 < 8 by omega)
            have hown6 : OwnO (w6.setRow w.heap.size (rowOf 8 (fr8 f.kd f.ss f.lo f.hi f.d0 f.d1 f.d2 (.slice ao f.ops.length co)))) w.heap.size (.slice ao f.ops.length co) f.ops := by
              refine OwnO.base (own_frame hown fun y hy => ?_) (by omega)
              obtain ⟨hy1, hy2⟩ := hown.lt y hy
              have hy3 : y < w5.heap.size := Nat.lt_of_lt_of_le hy2 (Nat.le_trans hBA.size hb5.size)
              exact (setRow_other _ _ _ _ (by omega)).trans ((hB6q.block y hy3).trans ((hb5.block y (Nat.lt_of_lt_of_le hy2 hBA.size) (by omega)).trans (hBA.block y hy2)))
            go_wp2_with (refine wpList_store_row rfl 58 (.tmp 2) (.tmp 52) rfl w.heap.size _ rfl rfl _ _ R6 (by exact infoFr) (by rw [rowOf_size]; rfl) (by simp [Value.oneCell']) ?_)
            exact bodyPost_ret (results_cell_tmp Tryz.results109 _ _ w.heap.size 58 _ (0, 0) _ _ rfl rfl (R6.setRow (fr8 f.kd f.ss f.lo f.hi f.d0 f.d1 f.d2 (.slice ao f.ops.length co))) Tryz.underlying58 rfl (by rw [rowOf_size]; exact infoFr)) rfl (FPost.yes HR1.out ⟨_, rfl, hown6⟩ (below_setRow' hB6 (Nat.le_refl _) _)))
        · skip
          have HR1 : Hid (R = none) := by rw [HR, if_neg (by intro e; simp at e; exact hc ⟨e.1.symm, e.2.1.symm, e.2.2.symm⟩)]; exact rfl
          have hcb : (if y0 = x0 then if y1 = x1 then decide (y2 = x2) else false else false) = false := by
            by_cases e0 : y0 = x0
            · by_cases e1 : y1 = x1
              · rw [if_pos e0, if_pos e1]; exact decide_eq_false fun e2 => hc ⟨e0, e1, e2⟩
              · rw [if_pos e0, if_neg e1]
            · rw [if_neg e0]
          have heq : ∀ W, (Op.equalIn 10000 49 (.agg #[.int .u8 y0, .int .u8 y1, .int .u8 y2]) (.agg #[.int .u8 x0, .int .u8 x1, .int .u8 x2])).run Tryz.prog W = .ok false W := fun W => by rw [eqArrG, hcb]
          clear HR hcb hc
          go_region_held3 (fun w' => Below w5.heap.size w5 w' ∧ World.cell? w' ⟨g, N, none⟩ = some (.int .u8 x0) ∧ World.cell? w' ⟨g, N + 1, none⟩ = some (.int .u8 x1) ∧ World.cell? w' ⟨g, N + 2, none⟩ = some (.int .u8 x2)) (first | assumption | exact q3_drew hS5 | (refine q3_kept (q3_drew hS5) ?_; assumption) | (refine q3_kept ?_ ?_ <;> assumption)) ((go_at_call 185; refine (HC.out _ ?hQ).mono ?_; (case hQ => (first | exact (Below.refl _ _).drew | exact q3_b (g := g) (N := N) (x := x0) (y := x1) (z := x2) (by assumption))); rintro e w6 ⟨rfl, hb6⟩))
          all_goals (
            obtain ⟨hB6q, -, -, -⟩ := ‹Below w5.heap.size w5 w6 ∧ _›
            clear hb6
            have hB6 := hB5.trans (hB6q.mono hB5.size)
            have R6 := R5.below hB6q R5.lt
            obtain ⟨-, -, -, -, -, -, -, -, ⟨aC, sC⟩⟩ := hE.sents.below hB6
            go_wp2_with fail
            refine wp_region_held_drew (S := fun w' => Below w.heap.size w w' ∧ w'.cell? ⟨3, 0, none⟩ = some (.iface 435 (.pointer (some aC))) ∧ ∃ f0, RowIs w' w.heap.size 58 8 f0 ∧ ((rowOf 8 f0).all (·.oneCell')) = true) (by kernel_rfl) ⟨hB6.drew, sC, _, R6, fr8_one _ _ _ _ _ _ _ _ _ _⟩ (fun hHeld => ?_)
            generalize World.drew _ = wD at hHeld ⊢
            refine wpAnyH_take (i := 0) (oi := { dst := some 50, op := _, type := _, pos := _, after := _, guard := _ }) rfl (by kernel_rfl) (by kernel_rfl) (by kernel_rfl) (fun _ _ _ h => h) (Or.inl ⟨by rfl, fun w _ => by go_simp; rfl⟩) hHeld ?_
            simp only [Act.put, List.setIfInBounds_toArray, List.set_cons_zero, List.set_cons_succ]
            refine wpAnyH_take (i := 1) (oi := { dst := some 51, op := _, type := _, pos := _, after := _, guard := _ }) rfl (by kernel_rfl) (by kernel_rfl) (by kernel_rfl) (fun _ _ _ h => h) (Or.inl ⟨by rfl, fun w hS => by have sCC := hS.2.1; go_simp; rfl⟩) hHeld ?_
            simp only [Act.put, List.setIfInBounds_toArray, List.set_cons_zero, List.set_cons_succ]
            refine wpAnyH_ready (rs := [2]) (by kernel_rfl) (by simp) (AllReadyH.cons (o := { dst := none, op := _, type := _, pos := _, after := _, guard := _ }) rfl (fun K hK => ?_) AllReadyH.nil)
            obtain ⟨hBD, sCD, f0, hRes, -⟩ := hHeld
            rw [if_pos (by rfl)]
            refine wp_store_row 58 (.tmp 2) (.tmp 50) rfl w.heap.size (rowOf 8 (fr8 0 0 0 0 0 0 0 (.slice none 0 0))) rfl rfl _ _ hRes (by rw [rowOf_size]; exact infoFr) (by rw [rowOf_size, rowOf_size]) (fr8_one _ _ _ _ _ _ _ _ _ _) ?_
            refine hK.out _ _ ⟨below_setRow' hBD (Nat.le_refl _) _, (World.cell?_of_block (setRow_other _ _ _ _ (show 3 ≠ w.heap.size by omega))).trans sCD, _, hRes.setRow _, fr8_one _ _ _ _ _ _ _ _ _ _⟩ (fun hHeld => ?_)
            clear hK K hRes
            refine wpAnyH_ready (rs := [3]) (by kernel_rfl) (by simp) (AllReadyH.cons (o := { dst := some 3, op := _, type := _, pos := _, after := _, guard := _ }) rfl (fun K hK => ?_) AllReadyH.nil)
            go_simp
            refine hK.out _ _ hHeld (fun hHeld => ?_)
            clear hK K
            refine wpAnyH_done (by kernel_rfl) ?_ _
            go_wp2_with fail
            obtain ⟨hB9, -, f9, hRes9, hOne9⟩ := hHeld
            exact bodyPost_ret (results_cell_tmp Tryz.results109 _ _ w.heap.size 58 _ (0, 0) _ _ rfl rfl hRes9 Tryz.underlying58 rfl (by rw [rowOf_size]; exact infoFr)) rfl (FPost.no HR1.out ⟨f9, _, rfl, hOne9, _, _, rfl⟩ hB9))
end Go.Proofs.YtgccjefbedpmpaaGreatDoor

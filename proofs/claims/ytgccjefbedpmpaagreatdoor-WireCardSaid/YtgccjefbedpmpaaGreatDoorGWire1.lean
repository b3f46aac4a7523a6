import Derived.Test.YtgccjefbedpmpaaGreatDoorGRFrG
import Derived.Test.YtgccjefbedpmpaaGreatDoorGIns0
import Derived.Test.YtgccjefbedpmpaaGreatDoorGWPack
namespace Go.Proofs.YtgccjefbedpmpaaGreatDoor
open Go.RowKit
theorem frP_more {f : Frm} (h : FrW f) (r : List Int) (h5 : f.kd ≤ 2 ∨ 2 < f.kd) : frP (frB f ++ r) = some (f, r) := by
  obtain ⟨k, ss, lo, hi, a, b, c, os⟩ := f
  obtain ⟨⟨k1, k2⟩, ⟨a1, b1⟩, ⟨a2, b2, c2⟩, ⟨a3, b3, c3⟩, hd, ⟨n1, n2⟩, ho⟩ := h
  dsimp only at *
  unfold frB
  dsimp only
  rw [List.cons_append, List.append_assoc, frP, vR_complete (by decide) a1 b1]
  dsimp only
  have e1 : ∀ l, rgP k ((if k ≠ 5 then vn lo.toNat ++ vn hi.toNat else []) ++ l) = some (lo, hi, l) := fun l => by
    unfold rgP
    by_cases e : k = 5
    · rw [if_neg (by omega), if_neg (by omega), c2 e, c3 e]; rfl
    · rw [if_pos (by omega), if_pos e, List.append_assoc, vR_complete (by decide) a2 b2]
      dsimp only
      rw [vR_complete (by decide) a3 b3]
  have e2 : ∀ l, dgP k ((if k = 1 then [a, b, c] else []) ++ l) = some (a, b, c, l) := fun l => by
    unfold dgP
    by_cases e : k = 1
    · rw [if_pos e, if_pos e]; rfl
    · obtain ⟨rfl, rfl, rfl⟩ := hd e
      rw [if_neg e, if_neg e]; rfl
  have e3 : opsP k ((if 2 < k then (os.length : Int) :: osB os else []) ++ r) = some (os, r) := by
    unfold opsP
    by_cases e : 2 < k
    · rw [if_pos (by omega), if_pos e, List.cons_append]
      dsimp only
      rw [Int.toNat_natCast, osP_complete os r ho]
    · rw [if_neg (by omega), if_neg e, n2 (by omega)]; rfl
  rw [List.append_assoc, e1]
  dsimp only
  rw [List.append_assoc, e2]
  dsimp only
  rw [e3]
/-- A frame's bytes but for the last one are no frame's bytes. -/
theorem good_short {f : Frm} (h : okFrm f = true) (hT : FrT f) : ∀ g, ¬ Good g ((packL f).take ((packL f).length - 1)) := by
  intro g hg
  have hf : Good f (packL f) := ⟨h, hT, rfl⟩
  have lf := hf.len
  have lg := hg.len
  have bf := hf.body.1
  have bg := hg.body.1
  rw [List.length_take, Nat.min_eq_left (by omega)] at lg bg
  rw [List.take_take, Nat.min_eq_left (by omega)] at bg
  obtain ⟨n, hn⟩ : ∃ n, (packL f).length = n + 4 := ⟨(packL f).length - 4, by
    have : 0 < (frB f).length := by unfold frB; simp
    omega⟩
  rw [hn] at bf bg lf lg
  have e1 : n + 4 - 3 = n + 1 := by omega
  have e2 : n + 4 - 1 - 3 = n := by omega
  rw [e1] at bf
  rw [e2] at bg
  obtain ⟨x, hx⟩ : ∃ x, (packL f).take (n + 1) = (packL f).take n ++ [x] := ⟨_, List.take_succ_eq_append_getElem (by omega)⟩
  rw [bg, bf] at hx
  have q1 := frP_complete hf.w
  rw [hx, frP_more hg.w [x] (by omega)] at q1
  cases q1
set_option maxRecDepth 100000 in
set_option maxHeartbeats 1000000 in
theorem ksameOps_any (xs : List Opn) (a b : Option Addr) (c d : Nat) (w : World) (hn : xs.length ≤ 9223372036854775807) (ha : OpsIs w a xs) (hb : OpsIs w b xs) :
    Calls Tryz.prog 24 #[.slice a xs.length c, .slice b xs.length d] w fun e w' => e = .returned (.bool true) ∧ Below w.heap.size w w' := by
  have HA : Hid (OpsIs w a xs ∧ OpsIs w b xs) := ⟨ha, hb⟩
  clear ha hb
  go_enter Tryz.func24, Tryz.ntmps24
  go_wp2_with fail
  go_loopw [5] (fun iv wr => ∃ i : Nat, i ≤ xs.length ∧ iv = .int .i64 i ∧ Below w.heap.size w wr) (fun iv _ => xs.length - (intOf iv).toNat)
  case atStart => exact ⟨0, Nat.zero_le _, rfl, Below.refl _ _⟩
  case round =>
    obtain ⟨i, hi, rfl, hbl⟩ := hrel
    by_cases hlt : i < xs.length
    · have li : (i : Int) < (xs.length : Int) := by omega
      obtain ⟨h1, h2⟩ := HA.out
      rcases h1 with h0 | ⟨g, off, rfl, h1⟩
      · subst h0; cases hlt
      rcases h2 with h0 | ⟨g', off', rfl, h2⟩
      · subst h0; cases hlt
      have hq := (h1.below hbl).cells hlt
      have hr := (h2.below hbl).cells hlt
      clear h1 h2
      go_wp2_with fail
      refine wp_region_held_drew (S := fun w' => Below w.heap.size w w' ∧ (w'.cell? ⟨g, off + i * 6, none⟩ = some (.int .i64 xs[i].kd) ∧ w'.cell? ⟨g, off + i * 6 + 1, none⟩ = some (.int .u32 xs[i].cl) ∧ w'.cell? ⟨g, off + i * 6 + 2, none⟩ = some (.int .u32 xs[i].ck) ∧ w'.cell? ⟨g, off + i * 6 + 3, none⟩ = some (.int .u32 xs[i].st) ∧ w'.cell? ⟨g, off + i * 6 + 4, none⟩ = some (.int .u64 xs[i].rf) ∧ w'.cell? ⟨g, off + i * 6 + 5, none⟩ = some (.int .i32 xs[i].ch)) ∧ w'.cell? ⟨g', off' + i * 6, none⟩ = some (.int .i64 xs[i].kd) ∧ w'.cell? ⟨g', off' + i * 6 + 1, none⟩ = some (.int .u32 xs[i].cl) ∧ w'.cell? ⟨g', off' + i * 6 + 2, none⟩ = some (.int .u32 xs[i].ck) ∧ w'.cell? ⟨g', off' + i * 6 + 3, none⟩ = some (.int .u32 xs[i].st) ∧ w'.cell? ⟨g', off' + i * 6 + 4, none⟩ = some (.int .u64 xs[i].rf) ∧ w'.cell? ⟨g', off' + i * 6 + 5, none⟩ = some (.int .i32 xs[i].ch)) (by kernel_rfl) ⟨hbl.drew, hq, hr⟩ (fun hHeld => ?_)
      generalize World.drew _ = wE at hHeld ⊢
      refine wpAnyH_take (i := 0) (oi := { dst := some 17, op := _, type := _, pos := _, after := _, guard := _ }) rfl (by kernel_rfl) (by kernel_rfl) (by kernel_rfl) (fun _ _ _ h => h) (Or.inl ⟨by rfl, fun w hS => by obtain ⟨⟨q0, q1, q2, q3, q4, q5⟩, r0, r1, r2, r3, r4, r5⟩ := hS.2; go_simp; rfl⟩) hHeld ?_
      simp only [Act.put, List.setIfInBounds_toArray, List.set_cons_zero, List.set_cons_succ]
      refine wpAnyH_take (i := 1) (oi := { dst := some 18, op := _, type := _, pos := _, after := _, guard := _ }) rfl (by kernel_rfl) (by kernel_rfl) (by kernel_rfl) (fun _ _ _ h => h) (Or.inl ⟨by rfl, fun w hS => by obtain ⟨⟨q0, q1, q2, q3, q4, q5⟩, r0, r1, r2, r3, r4, r5⟩ := hS.2; go_simp; rfl⟩) hHeld ?_
      simp only [Act.put, List.setIfInBounds_toArray, List.set_cons_zero, List.set_cons_succ]
      refine wpAnyH_take (i := 2) (oi := { dst := some 19, op := _, type := _, pos := _, after := _, guard := _ }) rfl (by kernel_rfl) (by kernel_rfl) (by kernel_rfl) (fun _ _ _ h => h) (Or.inl ⟨by rfl, fun w hS => by obtain ⟨⟨q0, q1, q2, q3, q4, q5⟩, r0, r1, r2, r3, r4, r5⟩ := hS.2; go_simp; rfl⟩) hHeld ?_
      simp only [Act.put, List.setIfInBounds_toArray, List.set_cons_zero, List.set_cons_succ]
      refine wpAnyH_take (i := 3) (oi := { dst := some 20, op := _, type := _, pos := _, after := _, guard := _ }) rfl (by kernel_rfl) (by kernel_rfl) (by kernel_rfl) (fun _ _ _ h => h) (Or.inl ⟨by rfl, fun w hS => by obtain ⟨⟨q0, q1, q2, q3, q4, q5⟩, r0, r1, r2, r3, r4, r5⟩ := hS.2; go_simp; rfl⟩) hHeld ?_
      simp only [Act.put, List.setIfInBounds_toArray, List.set_cons_zero, List.set_cons_succ]
      refine wpAnyH_take (i := 4) (oi := { dst := some 21, op := _, type := _, pos := _, after := _, guard := _ }) rfl (by kernel_rfl) (by kernel_rfl) (by kernel_rfl) (fun _ _ _ h => h) (Or.inl ⟨by rfl, fun w hS => by obtain ⟨⟨q0, q1, q2, q3, q4, q5⟩, r0, r1, r2, r3, r4, r5⟩ := hS.2; go_simp; rfl⟩) hHeld ?_
      simp only [Act.put, List.setIfInBounds_toArray, List.set_cons_zero, List.set_cons_succ]
      refine wpAnyH_take (i := 5) (oi := { dst := some 22, op := _, type := _, pos := _, after := _, guard := _ }) rfl (by kernel_rfl) (by kernel_rfl) (by kernel_rfl) (fun _ _ _ h => h) (Or.inl ⟨by rfl, fun w hS => by obtain ⟨⟨q0, q1, q2, q3, q4, q5⟩, r0, r1, r2, r3, r4, r5⟩ := hS.2; go_simp; rfl⟩) hHeld ?_
      simp only [Act.put, List.setIfInBounds_toArray, List.set_cons_zero, List.set_cons_succ]
      refine wpAnyH_take (i := 6) (oi := { dst := some 23, op := _, type := _, pos := _, after := _, guard := _ }) rfl (by kernel_rfl) (by kernel_rfl) (by kernel_rfl) (fun _ _ _ h => h) (Or.inl ⟨by rfl, fun w hS => by obtain ⟨⟨q0, q1, q2, q3, q4, q5⟩, r0, r1, r2, r3, r4, r5⟩ := hS.2; go_simp; rfl⟩) hHeld ?_
      simp only [Act.put, List.setIfInBounds_toArray, List.set_cons_zero, List.set_cons_succ]
      refine wpAnyH_take (i := 7) (oi := { dst := some 24, op := _, type := _, pos := _, after := _, guard := _ }) rfl (by kernel_rfl) (by kernel_rfl) (by kernel_rfl) (fun _ _ _ h => h) (Or.inl ⟨by rfl, fun w hS => by obtain ⟨⟨q0, q1, q2, q3, q4, q5⟩, r0, r1, r2, r3, r4, r5⟩ := hS.2; go_simp; rfl⟩) hHeld ?_
      simp only [Act.put, List.setIfInBounds_toArray, List.set_cons_zero, List.set_cons_succ]
      refine wpAnyH_take (i := 8) (oi := { dst := some 25, op := _, type := _, pos := _, after := _, guard := _ }) rfl (by kernel_rfl) (by kernel_rfl) (by kernel_rfl) (fun _ _ _ h => h) (Or.inl ⟨by rfl, fun w hS => by obtain ⟨⟨q0, q1, q2, q3, q4, q5⟩, r0, r1, r2, r3, r4, r5⟩ := hS.2; go_simp; rfl⟩) hHeld ?_
      simp only [Act.put, List.setIfInBounds_toArray, List.set_cons_zero, List.set_cons_succ]
      refine wpAnyH_done (by kernel_rfl) ?_ _
      go_wp2_with fail
      go_roundw
      case rel => exact ⟨i + 1, hlt, by go_num, hHeld.1⟩
      case measure => simp [intOf]; omega
    · obtain rfl : i = xs.length := by omega
      go_wp2_with fail
      go_ret
      exact ⟨rfl, hbl⟩
end Go.Proofs.YtgccjefbedpmpaaGreatDoor
namespace Go.Proofs.YtgccjefbedpmpaaGreatDoor
open Go.RowKit
/-- The frame that was handed in, boxed. -/
structure WiS (w W : World) (F : Frm) (aF : Option Addr) (cF : Nat) : Prop where
  below : Below w.heap.size w W
  row : RowIs W w.heap.size 58 8 (fr8 F.kd F.ss F.lo F.hi F.d0 F.d1 F.d2 (.slice aF F.ops.length cF))
  ops : OpsIs W aF F.ops
theorem WiS.kept {w W W2 : World} {F : Frm} {aF : Option Addr} {cF : Nat} (h : WiS w W F aF cF) (hb : Below W.heap.size W W2) : WiS w W2 F aF cF := ⟨h.below.trans (hb.mono h.below.size), h.row.below hb h.row.lt, h.ops.below hb⟩
theorem chkByt (s : ByteArray) : Byt (chk s) := by
  have e : ∀ n, 0 ≤ dig s n ∧ dig s n < 256 := fun n => by unfold dig outB; omega
  exact Byt.nil.cons (e 2) |>.cons (e 1) |>.cons (e 0)
theorem conv_zero (ad : Addr) (cap : Nat) (W : World) : (convert 59 9 (.slice (some ad) 0 cap)).run Tryz.prog W = .ok (.string (strOfNums [])) W := by
  have hl : (loadCells ad 0).run Tryz.prog W = .ok #[] W := by simp [loadCells, loadCellsFrom]
  rw [run_convert_bytes_string W 59 9 5 _ 0 cap Tryz.underlying59 Tryz.underlying5 Tryz.underlying9, run_bytesToString W _ 0 cap [] hl]
  rfl
theorem packL_byt {f : Frm} (h : Good f (packL f)) : Byt (packL f) := fun x hx => (List.mem_append.1 hx).elim (h.byt x) (chkByt _ x)
theorem good_T {f : Frm} {l : List Int} (h : Good f l) : FrmT f := ⟨by have := h.w.kd; omega, by have := h.w.ss; omega, by have := h.w.lo; omega, by have := h.w.hi; omega, h.2.1.dg, fun o ho => (h.w.ops o ho).t⟩
theorem inA_take {w : World} {B g c n : Nat} {L : List Int} (h : OwnB w B (.slice (some ⟨g, 0, none⟩) n c) L) (hb : Byt L ∧ L.length ≤ 100000) (m : Nat) : InA w (some ⟨g, 0, none⟩) c (L.take m) := by
  by_cases hl : L = []
  · subst hl; exact Or.inl (by simp)
  obtain ⟨g', c', e, hc, hg, hcell⟩ := h.view hl
  cases e
  refine Or.inr ⟨g, 0, rfl, fun i hi => ?_, fun x hx => hb.1 x (List.mem_of_mem_take hx), hg, ?_, ?_, ?_⟩
  · rw [List.length_take] at hi
    rw [hcell i (by omega), List.getElem_take]
  · rw [List.length_take]; omega
  · rcases h.2 with ⟨e, _⟩ | ⟨g', cap, cur, e, _, h4, _, h6, h7, _⟩
    · cases e
    · cases e
      unfold maxLen at h6
      omega
  · rw [List.length_take]; have := hb.2; omega
theorem inA_own {w : World} {B g c n : Nat} {L : List Int} (h : OwnB w B (.slice (some ⟨g, 0, none⟩) n c) L) (hb : Byt L ∧ L.length ≤ 100000) : InA w (some ⟨g, 0, none⟩) c L := by
  have := inA_take h hb L.length
  rwa [List.take_length] at this
set_option maxRecDepth 100000 in
set_option maxHeartbeats 4000000 in
theorem wire_any (F : Frm) (aF : Option Addr) (cF : Nat) (a : Option Addr) (cap : Nat) (l : List Int) (w : World) (hT : FrmT F) (hn : F.ops.length ≤ 9223372036854775807) (hO : OpsIs w aF F.ops) (hL : InA w a cap l) (hE : Env w) (hg9 : 15 ≤ w.heap.size) :
    Calls Tryz.prog 9 #[F.val (.slice aF F.ops.length cF), .slice a l.length cap] w fun e w' => e = .returned (.bool true) ∧ Below w.heap.size w w' := by
  unfold Frm.val
  have h0 : WiS w (w.alloc (.cells #[.int .i64 F.kd, .int .u32 F.ss, .int .u64 F.lo, .int .u64 F.hi, .int .u8 F.d0, .int .u8 F.d1, .int .u8 F.d2, .slice aF F.ops.length cF] 58)) F aF cF := ⟨below1' _ _, RowIs.last rfl rfl, hO.below (below1' _ _)⟩
  have H0 : Hid (WiS w _ F aF cF) := h0
  have HKn : Hid (Calls _ _ _ _ _) := known_any (w.alloc (.cells #[.int .i64 F.kd, .int .u32 F.ss, .int .u64 F.lo, .int .u64 F.hi, .int .u8 F.d0, .int .u8 F.d1, .int .u8 F.d2, .slice aF F.ops.length cF] 58)) (hE.below h0.below) (by simp; omega)
  have HFl : Hid (F.ops.length ≤ 9223372036854775807) := hn
  have hfr : okFrm F = true → Good F (packL F) := fun h => ⟨h, hT.t, rfl⟩
  obtain ⟨m, hm⟩ : ∃ m, m = (packL F).length - 1 := ⟨_, rfl⟩
  have HCv : Hid (∀ W, Below w.heap.size w W → (convert 59 9 (.slice a l.length cap)).run Tryz.prog W = .ok (.string (strOfNums l)) W) := fun W hW => by
    rcases hL with rfl | ⟨g, off, rfl, hI⟩
    · cases a with
      | none => exact run_convert_bytes_nil W 59 5 Tryz.underlying59 Tryz.underlying5 0 cap _ Tryz.underlying9
      | some ad => exact conv_zero ad cap W
    · exact run_convert_bytes_arg W 59 5 Tryz.underlying59 Tryz.underlying5 g off l.length cap l rfl (fun i hi => by rw [(hI.below hW).bytes i hi, List.getD_eq_getElem?_getD, List.getElem?_eq_getElem hi]; rfl) _ Tryz.underlying9
  cases hok : okFrm F with
  | true =>
    have hG := hfr hok
    have hl := hG.len
    have hdg : ∀ W, (Op.equalIn 10000 50 (.agg #[.int .u8 F.d0, .int .u8 F.d1, .int .u8 F.d2]) (.agg #[.int .u8 F.d0, .int .u8 F.d1, .int .u8 F.d2])).run Tryz.prog W = .ok true W := fun W => by have := eqDigG F.d0 F.d1 F.d2 F.d0 F.d1 F.d2 W; simpa using this
    have hmz : (packL F).length = m + 1 := by omega
    have HLne : Hid (packL F ≠ []) := fun e => by rw [e] at hl; simp at hl
    have hpl := packL_len hok hT
    have hw64 : wrap64 (m : Int) = (m : Int) := by unfold wrap64; omega
    have HLb : Hid ((packL F).length = m + 1 ∧ (Byt (packL F) ∧ (packL F).length ≤ 100000)) := ⟨hmz, packL_byt hG, hpl⟩
    have HPg : Hid (∀ W, Below w.heap.size w W → Calls Tryz.prog 30 #[.agg #[.int .i64 F.kd, .int .u32 F.ss, .int .u64 F.lo, .int .u64 F.hi, .int .u8 F.d0, .int .u8 F.d1, .int .u8 F.d2, .slice aF F.ops.length cF]] W fun e w' => (∃ v, e = .returned (.tuple #[v, .int .i64 0]) ∧ OwnB w' W.heap.size v (packL F)) ∧ Below W.heap.size W w') := fun W hW => kpack_good F aF cF hT W (hE.below hW) (hO.below hW) hok
    have HU1 : Hid (∀ W g c, Below w.heap.size w W → InA W (some ⟨g, 0, none⟩) c (packL F) → Calls Tryz.prog 31 #[.slice (some ⟨g, 0, none⟩) (m + 1) c] W fun e w' => (∃ a3 c3, e = .returned (.tuple #[.agg #[.int .i64 F.kd, .int .u32 F.ss, .int .u64 F.lo, .int .u64 F.hi, .int .u8 F.d0, .int .u8 F.d1, .int .u8 F.d2, .slice a3 F.ops.length c3], .int .i64 0]) ∧ OwnO w' W.heap.size (.slice a3 F.ops.length c3) F.ops) ∧ Below W.heap.size W w') := fun W g c hW hI => by
      have := kunpA_any (some ⟨g, 0, none⟩) c (packL F) W hI (hE.below hW) (by have := hW.size; omega)
      rw [hmz] at this
      refine this.mono ?_
      rintro e w' ⟨hk | ⟨hno, _⟩, hb⟩
      · obtain ⟨f, s, hf, rfl, ho⟩ := hk
        obtain rfl := hf.one hG
        obtain ⟨a3, c3, rfl, -⟩ := own_viewN (own0 ho)
        exact ⟨⟨a3, c3, rfl, ho⟩, hb⟩
      · exact absurd hG (hno F)
    have HU2 : Hid (∀ W g c, Below w.heap.size w W → InA W (some ⟨g, 0, none⟩) c ((packL F).take m) → Calls Tryz.prog 31 #[.slice (some ⟨g, 0, none⟩) m c] W fun e w' => e = .returned (.tuple #[zeroF, .int .i64 8]) ∧ Below W.heap.size W w') := fun W g c hW hI => by
      have := kunpA_any (some ⟨g, 0, none⟩) c ((packL F).take m) W hI (hE.below hW) (by have := hW.size; omega)
      rw [List.length_take, hmz, Nat.min_eq_left (Nat.le_succ _)] at this
      refine this.mono ?_
      rintro e w' ⟨⟨f, s, hf, _⟩ | ⟨_, rfl⟩, hb⟩
      · exact absurd (hm ▸ hf) (good_short hok hT.t f)
      · exact ⟨rfl, hb⟩
    by_cases hgd : ∃ G, Good G l
    · obtain ⟨G, hGl⟩ := hgd
      have HUy : Hid (∀ W, Below w.heap.size w W → Calls Tryz.prog 31 #[.slice a l.length cap] W fun e w' => (∃ a3 c3, e = .returned (.tuple #[.agg #[.int .i64 G.kd, .int .u32 G.ss, .int .u64 G.lo, .int .u64 G.hi, .int .u8 G.d0, .int .u8 G.d1, .int .u8 G.d2, .slice a3 G.ops.length c3], .int .i64 0]) ∧ OwnO w' W.heap.size (.slice a3 G.ops.length c3) G.ops) ∧ Below W.heap.size W w') := fun W hW => by
        refine (kunpA_any a cap l W (hL.below hW) (hE.below hW) (by have := hW.size; omega)).mono ?_
        rintro e w' ⟨hk | ⟨hno, _⟩, hb⟩
        · obtain ⟨f, s, hf, rfl, ho⟩ := hk
          obtain rfl := hf.one hGl
          obtain ⟨a3, c3, rfl, -⟩ := own_viewN (own0 ho)
          exact ⟨⟨a3, c3, rfl, ho⟩, hb⟩
        · exact absurd hGl (hno G)
      have HPy : Hid (∀ W a6 c6, Below w.heap.size w W → OpsIs W a6 G.ops → Calls Tryz.prog 30 #[.agg #[.int .i64 G.kd, .int .u32 G.ss, .int .u64 G.lo, .int .u64 G.hi, .int .u8 G.d0, .int .u8 G.d1, .int .u8 G.d2, .slice a6 G.ops.length c6]] W fun e w' => (∃ v, e = .returned (.tuple #[v, .int .i64 0]) ∧ OwnB w' W.heap.size v l) ∧ Below W.heap.size W w') := fun W a6 c6 hW h6 => by
        have := kpack_good G a6 c6 (good_T hGl) W (hE.below hW) h6 hGl.1
        rw [← hGl.2.2] at this
        exact this
      clear hT hO hL hE hG hl hGl hfr h0 hm hmz hn hok hpl
      go_enter Tryz.func9, Tryz.ntmps9
      go_wp2_with (first
        | (go_at_call 30; have hq := H6; clear hq; refine (HPy.out _ _ _ H6.out.1 H6.out.2).mono ?_; rintro e w7 ⟨⟨v7, rfl, hv7⟩, hb7⟩; have H7 := H6.out.1.trans (hb7.mono H6.out.1.size); have cv1 := conv_own hv7; have cv2 := HCv.out _ H7)
        | (go_at_call 31; have hq := H5; clear hq; refine (HUy.out _ H5.out).mono ?_; rintro e w6 ⟨⟨a6, c6, rfl, ho6⟩, hb6⟩; have q6 := H5.out.trans (hb6.mono H5.out.size); have H6 : Hid (Below w.heap.size w (w6.alloc (.cells #[.int .i64 G.kd, .int .u32 G.ss, .int .u64 G.lo, .int .u64 G.hi, .int .u8 G.d0, .int .u8 G.d1, .int .u8 G.d2, .slice a6 G.ops.length c6] 58)) ∧ OpsIs (w6.alloc (.cells #[.int .i64 G.kd, .int .u32 G.ss, .int .u64 G.lo, .int .u64 G.hi, .int .u8 G.d0, .int .u8 G.d1, .int .u8 G.d2, .slice a6 G.ops.length c6] 58)) a6 G.ops) := ⟨q6.alloc q6.size _, (OwnO.is ho6).below (below1' _ _)⟩; clear q6 ho6 hb6 H5)
        | (go_at_call 31; have hq := H4; clear hq; refine (HU2.out _ _ _ H4.out.1.below H4.out.2.1).mono ?_; rintro e w5 ⟨rfl, hb5⟩; clear r0 r1 r2 r3 r4 r5 r6 r7 s0 s1 s2 s3 s4 s5 s6 s7; have H5 : Hid (Below w.heap.size w (w5.alloc (.cells #[.int .i64 0, .int .u32 0, .int .u64 0, .int .u64 0, .int .u8 0, .int .u8 0, .int .u8 0, .slice none 0 0] 58))) := ((H4.out.1.kept hb5).kept (below1' _ _)).below; clear hb5 H4)
        | (go_at_call 24; refine (ksameOps_any F.ops aF a3 cF c3 _ HFl.out H3.out.1.ops H3.out.2.1).mono ?_; rintro e w4 ⟨rfl, hb4⟩; clear r0 r1 r2 r3 r4 r5 r6 r7 s0 s1 s2 s3 s4 s5 s6 s7; have H4 : Hid (WiS w w4 F aF cF ∧ InA w4 (some ⟨g2, 0, none⟩) c2 ((packL F).take m) ∧ RowIs w4 w3.heap.size 58 8 (fr8 F.kd F.ss F.lo F.hi F.d0 F.d1 F.d2 (.slice a3 F.ops.length c3))) := ⟨H3.out.1.kept hb4, H3.out.2.2.1.below hb4, H3.out.2.2.2.below hb4 H3.out.2.2.2.lt⟩; obtain ⟨r0, r1, r2, r3, r4, r5, r6, r7⟩ := fr_cells H4.out.2.2; obtain ⟨s0, s1, s2, s3, s4, s5, s6, s7⟩ := fr_cells H4.out.1.row; dsimp only [fr8] at r0 r1 r2 r3 r4 r5 r6 r7 s0 s1 s2 s3 s4 s5 s6 s7; clear hb4 H3)
        | (go_at_call 31; have hq := H2; clear hq; refine (HU1.out _ _ _ H2.out.1.below H2.out.2.1).mono ?_; rintro e w3 ⟨⟨a3, c3, rfl, ho3⟩, hb3⟩; have H3 : Hid (WiS w (w3.alloc (.cells #[.int .i64 F.kd, .int .u32 F.ss, .int .u64 F.lo, .int .u64 F.hi, .int .u8 F.d0, .int .u8 F.d1, .int .u8 F.d2, .slice a3 F.ops.length c3] 58)) F aF cF ∧ OpsIs (w3.alloc (.cells #[.int .i64 F.kd, .int .u32 F.ss, .int .u64 F.lo, .int .u64 F.hi, .int .u8 F.d0, .int .u8 F.d1, .int .u8 F.d2, .slice a3 F.ops.length c3] 58)) a3 F.ops ∧ InA (w3.alloc (.cells #[.int .i64 F.kd, .int .u32 F.ss, .int .u64 F.lo, .int .u64 F.hi, .int .u8 F.d0, .int .u8 F.d1, .int .u8 F.d2, .slice a3 F.ops.length c3] 58)) (some ⟨g2, 0, none⟩) c2 ((packL F).take m) ∧ RowIs (w3.alloc (.cells #[.int .i64 F.kd, .int .u32 F.ss, .int .u64 F.lo, .int .u64 F.hi, .int .u8 F.d0, .int .u8 F.d1, .int .u8 F.d2, .slice a3 F.ops.length c3] 58)) w3.heap.size 58 8 (fr8 F.kd F.ss F.lo F.hi F.d0 F.d1 F.d2 (.slice a3 F.ops.length c3))) := ⟨(H2.out.1.kept hb3).kept (below1' _ _), (OwnO.is ho3).below (below1' _ _), (H2.out.2.2.below hb3).below (below1' _ _), RowIs.last rfl rfl⟩; obtain ⟨r0, r1, r2, r3, r4, r5, r6, r7⟩ := fr_cells H3.out.2.2.2; obtain ⟨s0, s1, s2, s3, s4, s5, s6, s7⟩ := fr_cells H3.out.1.row; dsimp only [fr8] at r0 r1 r2 r3 r4 r5 r6 r7 s0 s1 s2 s3 s4 s5 s6 s7; clear ho3 hb3 H2)
        | (go_at_call 30; have hq := H1; clear hq; refine (HPg.out _ H1.out.below).mono ?_; rintro e w2 ⟨⟨v2, rfl, hv2⟩, hb2⟩; obtain ⟨g2, c2, rfl, hc2, hg2, hcell2⟩ := hv2.view HLne.out; have H2 : Hid (WiS w w2 F aF cF ∧ InA w2 (some ⟨g2, 0, none⟩) c2 (packL F) ∧ InA w2 (some ⟨g2, 0, none⟩) c2 ((packL F).take m)) := ⟨H1.out.kept hb2, inA_own hv2 HLb.out.2, inA_take hv2 HLb.out.2 m⟩; have hc2' : (m : Int) ≤ (c2 : Int) := (by have := HLb.out.1; omega); rw [HLb.out.1]; clear hv2 hb2 hcell2 H1)
        | (go_at_call 17; refine (HKn.out).mono ?_; rintro e w1 ⟨rfl, hb1⟩; have H1 : Hid (WiS w w1 F aF cF) := H0.out.kept hb1; obtain ⟨p0, p1, p2, p3, p4, p5, p6, p7⟩ := fr_cells H1.out.row; dsimp only [fr8] at p0 p1 p2 p3 p4 p5 p6 p7))
      go_ret
      exact ⟨rfl, H7⟩
    · skip
      have HUn : Hid (∀ W, Below w.heap.size w W → Calls Tryz.prog 31 #[.slice a l.length cap] W fun e w' => e = .returned (.tuple #[zeroF, .int .i64 8]) ∧ Below W.heap.size W w') := fun W hW => by
        refine (kunpA_any a cap l W (hL.below hW) (hE.below hW) (by have := hW.size; omega)).mono ?_
        rintro e w' ⟨⟨f, s, hf, _⟩ | ⟨_, rfl⟩, hb⟩
        · exact absurd ⟨f, hf⟩ hgd
        · exact ⟨rfl, hb⟩
      clear hT hO hL hE hG hl hgd hfr h0 hm hmz hn hok HCv hpl
      go_enter Tryz.func9, Tryz.ntmps9
      go_wp2_with (first
        | (go_at_call 31; have hq := H5; clear hq; refine (HUn.out _ H5.out).mono ?_; rintro e w6 ⟨rfl, hb6⟩; have q6 := H5.out.trans (hb6.mono H5.out.size); have H6 : Hid (Below w.heap.size w (w6.alloc (.cells #[.int .i64 0, .int .u32 0, .int .u64 0, .int .u64 0, .int .u8 0, .int .u8 0, .int .u8 0, .slice none 0 0] 58))) := q6.alloc q6.size _; clear q6 hb6 H5)
        | (go_at_call 31; have hq := H4; clear hq; refine (HU2.out _ _ _ H4.out.1.below H4.out.2.1).mono ?_; rintro e w5 ⟨rfl, hb5⟩; clear r0 r1 r2 r3 r4 r5 r6 r7 s0 s1 s2 s3 s4 s5 s6 s7; have H5 : Hid (Below w.heap.size w (w5.alloc (.cells #[.int .i64 0, .int .u32 0, .int .u64 0, .int .u64 0, .int .u8 0, .int .u8 0, .int .u8 0, .slice none 0 0] 58))) := ((H4.out.1.kept hb5).kept (below1' _ _)).below; clear hb5 H4)
        | (go_at_call 24; refine (ksameOps_any F.ops aF a3 cF c3 _ HFl.out H3.out.1.ops H3.out.2.1).mono ?_; rintro e w4 ⟨rfl, hb4⟩; clear r0 r1 r2 r3 r4 r5 r6 r7 s0 s1 s2 s3 s4 s5 s6 s7; have H4 : Hid (WiS w w4 F aF cF ∧ InA w4 (some ⟨g2, 0, none⟩) c2 ((packL F).take m) ∧ RowIs w4 w3.heap.size 58 8 (fr8 F.kd F.ss F.lo F.hi F.d0 F.d1 F.d2 (.slice a3 F.ops.length c3))) := ⟨H3.out.1.kept hb4, H3.out.2.2.1.below hb4, H3.out.2.2.2.below hb4 H3.out.2.2.2.lt⟩; obtain ⟨r0, r1, r2, r3, r4, r5, r6, r7⟩ := fr_cells H4.out.2.2; obtain ⟨s0, s1, s2, s3, s4, s5, s6, s7⟩ := fr_cells H4.out.1.row; dsimp only [fr8] at r0 r1 r2 r3 r4 r5 r6 r7 s0 s1 s2 s3 s4 s5 s6 s7; clear hb4 H3)
        | (go_at_call 31; have hq := H2; clear hq; refine (HU1.out _ _ _ H2.out.1.below H2.out.2.1).mono ?_; rintro e w3 ⟨⟨a3, c3, rfl, ho3⟩, hb3⟩; have H3 : Hid (WiS w (w3.alloc (.cells #[.int .i64 F.kd, .int .u32 F.ss, .int .u64 F.lo, .int .u64 F.hi, .int .u8 F.d0, .int .u8 F.d1, .int .u8 F.d2, .slice a3 F.ops.length c3] 58)) F aF cF ∧ OpsIs (w3.alloc (.cells #[.int .i64 F.kd, .int .u32 F.ss, .int .u64 F.lo, .int .u64 F.hi, .int .u8 F.d0, .int .u8 F.d1, .int .u8 F.d2, .slice a3 F.ops.length c3] 58)) a3 F.ops ∧ InA (w3.alloc (.cells #[.int .i64 F.kd, .int .u32 F.ss, .int .u64 F.lo, .int .u64 F.hi, .int .u8 F.d0, .int .u8 F.d1, .int .u8 F.d2, .slice a3 F.ops.length c3] 58)) (some ⟨g2, 0, none⟩) c2 ((packL F).take m) ∧ RowIs (w3.alloc (.cells #[.int .i64 F.kd, .int .u32 F.ss, .int .u64 F.lo, .int .u64 F.hi, .int .u8 F.d0, .int .u8 F.d1, .int .u8 F.d2, .slice a3 F.ops.length c3] 58)) w3.heap.size 58 8 (fr8 F.kd F.ss F.lo F.hi F.d0 F.d1 F.d2 (.slice a3 F.ops.length c3))) := ⟨(H2.out.1.kept hb3).kept (below1' _ _), (OwnO.is ho3).below (below1' _ _), (H2.out.2.2.below hb3).below (below1' _ _), RowIs.last rfl rfl⟩; obtain ⟨r0, r1, r2, r3, r4, r5, r6, r7⟩ := fr_cells H3.out.2.2.2; obtain ⟨s0, s1, s2, s3, s4, s5, s6, s7⟩ := fr_cells H3.out.1.row; dsimp only [fr8] at r0 r1 r2 r3 r4 r5 r6 r7 s0 s1 s2 s3 s4 s5 s6 s7; clear ho3 hb3 H2)
        | (go_at_call 30; have hq := H1; clear hq; refine (HPg.out _ H1.out.below).mono ?_; rintro e w2 ⟨⟨v2, rfl, hv2⟩, hb2⟩; obtain ⟨g2, c2, rfl, hc2, hg2, hcell2⟩ := hv2.view HLne.out; have H2 : Hid (WiS w w2 F aF cF ∧ InA w2 (some ⟨g2, 0, none⟩) c2 (packL F) ∧ InA w2 (some ⟨g2, 0, none⟩) c2 ((packL F).take m)) := ⟨H1.out.kept hb2, inA_own hv2 HLb.out.2, inA_take hv2 HLb.out.2 m⟩; have hc2' : (m : Int) ≤ (c2 : Int) := (by have := HLb.out.1; omega); rw [HLb.out.1]; clear hv2 hb2 hcell2 H1)
        | (go_at_call 17; refine (HKn.out).mono ?_; rintro e w1 ⟨rfl, hb1⟩; have H1 : Hid (WiS w w1 F aF cF) := H0.out.kept hb1; obtain ⟨p0, p1, p2, p3, p4, p5, p6, p7⟩ := fr_cells H1.out.row; dsimp only [fr8] at p0 p1 p2 p3 p4 p5 p6 p7))
      go_ret
      exact ⟨rfl, H6.out⟩
  | false =>
    have HPb : Hid (∀ W, Below w.heap.size w W → Calls Tryz.prog 30 #[.agg #[.int .i64 F.kd, .int .u32 F.ss, .int .u64 F.lo, .int .u64 F.hi, .int .u8 F.d0, .int .u8 F.d1, .int .u8 F.d2, .slice aF F.ops.length cF]] W fun e w' => e = .returned (.tuple #[.slice none 0 0, .int .i64 8]) ∧ Below W.heap.size W w') := fun W hW => kpack_bad F aF cF hT W (hE.below hW) (hO.below hW) hok
    by_cases hgd : ∃ G, Good G l
    · obtain ⟨G, hGl⟩ := hgd
      have HUy : Hid (∀ W, Below w.heap.size w W → Calls Tryz.prog 31 #[.slice a l.length cap] W fun e w' => (∃ a3 c3, e = .returned (.tuple #[.agg #[.int .i64 G.kd, .int .u32 G.ss, .int .u64 G.lo, .int .u64 G.hi, .int .u8 G.d0, .int .u8 G.d1, .int .u8 G.d2, .slice a3 G.ops.length c3], .int .i64 0]) ∧ OwnO w' W.heap.size (.slice a3 G.ops.length c3) G.ops) ∧ Below W.heap.size W w') := fun W hW => by
        refine (kunpA_any a cap l W (hL.below hW) (hE.below hW) (by have := hW.size; omega)).mono ?_
        rintro e w' ⟨hk | ⟨hno, _⟩, hb⟩
        · obtain ⟨f, s, hf, rfl, ho⟩ := hk
          obtain rfl := hf.one hGl
          obtain ⟨a3, c3, rfl, -⟩ := own_viewN (own0 ho)
          exact ⟨⟨a3, c3, rfl, ho⟩, hb⟩
        · exact absurd hGl (hno G)
      have HPy : Hid (∀ W a6 c6, Below w.heap.size w W → OpsIs W a6 G.ops → Calls Tryz.prog 30 #[.agg #[.int .i64 G.kd, .int .u32 G.ss, .int .u64 G.lo, .int .u64 G.hi, .int .u8 G.d0, .int .u8 G.d1, .int .u8 G.d2, .slice a6 G.ops.length c6]] W fun e w' => (∃ v, e = .returned (.tuple #[v, .int .i64 0]) ∧ OwnB w' W.heap.size v l) ∧ Below W.heap.size W w') := fun W a6 c6 hW h6 => by
        have := kpack_good G a6 c6 (good_T hGl) W (hE.below hW) h6 hGl.1
        rw [← hGl.2.2] at this
        exact this
      clear hT hO hL hE hGl hfr h0 hm hn hok
      go_enter Tryz.func9, Tryz.ntmps9
      go_wp2_with (first
        | (go_at_call 30; have hq := H6; clear hq; refine (HPy.out _ _ _ H6.out.1 H6.out.2).mono ?_; rintro e w7 ⟨⟨v7, rfl, hv7⟩, hb7⟩; have H7 := H6.out.1.trans (hb7.mono H6.out.1.size); have cv1 := conv_own hv7; have cv2 := HCv.out _ H7)
        | (go_at_call 31; have hq := H5; clear hq; refine (HUy.out _ H5.out).mono ?_; rintro e w6 ⟨⟨a6, c6, rfl, ho6⟩, hb6⟩; have q6 := H5.out.trans (hb6.mono H5.out.size); have H6 : Hid (Below w.heap.size w (w6.alloc (.cells #[.int .i64 G.kd, .int .u32 G.ss, .int .u64 G.lo, .int .u64 G.hi, .int .u8 G.d0, .int .u8 G.d1, .int .u8 G.d2, .slice a6 G.ops.length c6] 58)) ∧ OpsIs (w6.alloc (.cells #[.int .i64 G.kd, .int .u32 G.ss, .int .u64 G.lo, .int .u64 G.hi, .int .u8 G.d0, .int .u8 G.d1, .int .u8 G.d2, .slice a6 G.ops.length c6] 58)) a6 G.ops) := ⟨q6.alloc q6.size _, (OwnO.is ho6).below (below1' _ _)⟩; clear q6 ho6 hb6 H5)
        | (go_at_call 30; have hq := H1; clear hq; refine (HPb.out _ H1.out.below).mono ?_; rintro e w2 ⟨rfl, hb2⟩; have H5 : Hid (Below w.heap.size w w2) := (H1.out.kept hb2).below; clear H1)
        | (go_at_call 17; refine (HKn.out).mono ?_; rintro e w1 ⟨rfl, hb1⟩; have H1 : Hid (WiS w w1 F aF cF) := H0.out.kept hb1; obtain ⟨p0, p1, p2, p3, p4, p5, p6, p7⟩ := fr_cells H1.out.row; dsimp only [fr8] at p0 p1 p2 p3 p4 p5 p6 p7))
      go_ret
      exact ⟨rfl, H7⟩
    · skip
      have HUn : Hid (∀ W, Below w.heap.size w W → Calls Tryz.prog 31 #[.slice a l.length cap] W fun e w' => e = .returned (.tuple #[zeroF, .int .i64 8]) ∧ Below W.heap.size W w') := fun W hW => by
        refine (kunpA_any a cap l W (hL.below hW) (hE.below hW) (by have := hW.size; omega)).mono ?_
        rintro e w' ⟨⟨f, s, hf, _⟩ | ⟨_, rfl⟩, hb⟩
        · exact absurd ⟨f, hf⟩ hgd
        · exact ⟨rfl, hb⟩
      clear hT hO hL hE hgd hfr h0 hm hn hok HCv
      go_enter Tryz.func9, Tryz.ntmps9
      go_wp2_with (first
        | (go_at_call 31; have hq := H5; clear hq; refine (HUn.out _ H5.out).mono ?_; rintro e w6 ⟨rfl, hb6⟩; have q6 := H5.out.trans (hb6.mono H5.out.size); have H6 : Hid (Below w.heap.size w (w6.alloc (.cells #[.int .i64 0, .int .u32 0, .int .u64 0, .int .u64 0, .int .u8 0, .int .u8 0, .int .u8 0, .slice none 0 0] 58))) := q6.alloc q6.size _; clear q6 hb6 H5)
        | (go_at_call 30; have hq := H1; clear hq; refine (HPb.out _ H1.out.below).mono ?_; rintro e w2 ⟨rfl, hb2⟩; have H5 : Hid (Below w.heap.size w w2) := (H1.out.kept hb2).below; clear H1)
        | (go_at_call 17; refine (HKn.out).mono ?_; rintro e w1 ⟨rfl, hb1⟩; have H1 : Hid (WiS w w1 F aF cF) := H0.out.kept hb1; obtain ⟨p0, p1, p2, p3, p4, p5, p6, p7⟩ := fr_cells H1.out.row; dsimp only [fr8] at p0 p1 p2 p3 p4 p5 p6 p7))
      go_ret
      exact ⟨rfl, H6.out⟩
end Go.Proofs.YtgccjefbedpmpaaGreatDoor

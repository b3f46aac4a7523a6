import Derived.Test.YtgccjefbedpmpaaGreatDoorGCodU
import Derived.Test.YtgccjefbedpmpaaGreatDoorGRPt
import Derived.Deep.DeepCutAuto
namespace Go.Proofs.YtgccjefbedpmpaaGreatDoor
open Go.RowKit
/-- What lies in memory while the reference reads a frame. -/
structure US (w W : World) (s : ByteArray) (a : Nat) (bad : Bool) (f : Nat → Value) : Prop where
  below : Below w.heap.size w W
  roots : RowIs W w.heap.size 80 72 fun j => .int .u32 (RV j)
  res : RowIs W (w.heap.size + 1) 58 8 (fr8 0 0 0 0 0 0 0 (.slice none 0 0))
  non : RowIs W (w.heap.size + 1 + 1) 58 8 (fr8 0 0 0 0 0 0 0 (.slice none 0 0))
  inr : RowIs W (w.heap.size + 1 + 1 + 1) 291 3 (inc s a bad)
  fr : RowIs W (w.heap.size + 1 + 1 + 1 + 1) 58 8 f
section
variable {w W w2 : World} {s : ByteArray} {a a2 : Nat} {bad bad2 : Bool} {f f' : Nat → Value}
theorem US.read (h : US w W s a bad f) (hb : But (fun g => g = w.heap.size + 1 + 1 + 1) W w2) (hr : RowIs w2 (w.heap.size + 1 + 1 + 1) 291 3 (inc s a2 bad2)) : US w w2 s a2 bad2 f :=
  ⟨h.below.trans (hb.toBelow (by omega) h.below.size), h.roots.but hb (by omega), h.res.but hb (by omega), h.non.but hb (by omega), hr, h.fr.but hb (by omega)⟩
theorem US.kept (h : US w W s a bad f) (hb : Below W.heap.size W w2) : US w w2 s a bad f :=
  ⟨h.below.trans (hb.mono h.below.size), h.roots.below hb h.roots.lt, h.res.below hb h.res.lt, h.non.below hb h.non.lt, h.inr.below hb h.inr.lt, h.fr.below hb h.fr.lt⟩
theorem US.set (h : US w W s a bad f) (j : Nat) (v : Value) (hf : ∀ i, i < 8 → (if i = j then v else f i) = f' i) : US w (W.setCell ⟨w.heap.size + 1 + 1 + 1 + 1, j, none⟩ v) s a bad f' :=
  ⟨h.below.trans ((Below.refl _ _).setCell (by dsimp only; omega) v), h.roots.far (by omega) j v, h.res.far (by omega) j v, h.non.far (by omega) j v, h.inr.far (by omega) j v, (h.fr.set j v).congr hf⟩
theorem US.cells (h : US w W s a bad f) : W.cell? ⟨w.heap.size + 1 + 1 + 1 + 1, 0, none⟩ = some (f 0) ∧ W.cell? ⟨w.heap.size + 1 + 1 + 1 + 1, 1, none⟩ = some (f 1) ∧ W.cell? ⟨w.heap.size + 1 + 1 + 1 + 1, 2, none⟩ = some (f 2) ∧ W.cell? ⟨w.heap.size + 1 + 1 + 1 + 1, 3, none⟩ = some (f 3) ∧ W.cell? ⟨w.heap.size + 1 + 1 + 1 + 1, 4, none⟩ = some (f 4) ∧ W.cell? ⟨w.heap.size + 1 + 1 + 1 + 1, 5, none⟩ = some (f 5) ∧ W.cell? ⟨w.heap.size + 1 + 1 + 1 + 1, 6, none⟩ = some (f 6) ∧ W.cell? ⟨w.heap.size + 1 + 1 + 1 + 1, 7, none⟩ = some (f 7) :=
  ⟨h.fr.cell (by omega), h.fr.cell (by omega), h.fr.cell (by omega), h.fr.cell (by omega), h.fr.cell (by omega), h.fr.cell (by omega), h.fr.cell (by omega), h.fr.cell (by omega)⟩
theorem US.start {W3 w4 : World} (B3 : Below w.heap.size w W3) (R0 : RowIs W3 w.heap.size 80 72 fun j => .int .u32 (RV j)) (R1 : RowIs W3 (w.heap.size + 1) 58 8 (fr8 0 0 0 0 0 0 0 (.slice none 0 0))) (R2 : RowIs W3 (w.heap.size + 1 + 1) 58 8 (fr8 0 0 0 0 0 0 0 (.slice none 0 0))) {o : Obj} (hb : But (fun g => g = w.heap.size + 1 + 1 + 1) (W3.alloc o) w4) (hr : RowIs w4 (w.heap.size + 1 + 1 + 1) 291 3 (inc s a bad)) (hs : w4.heap.size = w.heap.size + 1 + 1 + 1 + 1) (k : Int) : US w (w4.alloc (.cells #[.int .i64 k, .int .u32 0, .int .u64 0, .int .u64 0, .int .u8 0, .int .u8 0, .int .u8 0, .slice none 0 0] 58)) s a bad (fr8 k 0 0 0 0 0 0 (.slice none 0 0)) := by
  have hA := below1' W3 o
  refine US.mk ((((B3.trans (hA.mono B3.size)).trans (hb.toBelow (by omega) (Nat.le_trans B3.size hA.size)))).trans ((below1' w4 _).mono (by omega))) (((R0.alloc _).but hb (by omega)).alloc _) (((R1.alloc _).but hb (by omega)).alloc _) (((R2.alloc _).but hb (by omega)).alloc _) (hr.alloc _) (RowIs.last hs.symm rfl)
theorem US.grown {row : Option Nat} (h : US w W s a bad f) (hg : W.grownBy w2 row) (hr : ∀ y, row = some y → w.heap.size + 1 + 1 + 1 + 1 + 1 ≤ y) : US w w2 s a bad f := by
  have hb : ∀ g, g < w.heap.size + 1 + 1 + 1 + 1 + 1 → g < W.heap.size → w2.heap[g]? = W.heap[g]? := fun g h1 h2 => hg.block g h2 fun e => by have := hr g e.symm; omega
  have hz := h.below.size
  refine ⟨⟨hg.os.trans h.below.os, hg.tape.trans h.below.tape, hg.output.trans h.below.output, Nat.le_trans hz hg.size, fun i hi => (hb i (by omega) (by omega)).trans (h.below.block i hi)⟩, ?_, ?_, ?_, ?_, ?_⟩
  · exact (hb _ (by omega) h.roots.lt).trans h.roots
  · exact (hb _ (by omega) h.res.lt).trans h.res
  · exact (hb _ (by omega) h.non.lt).trans h.non
  · exact (hb _ (by omega) h.inr.lt).trans h.inr
  · exact (hb _ (by omega) h.fr.lt).trans h.fr
theorem OwnO.form {w : World} {B : Nat} {v : Value} {os : List Opn} (h : OwnO w B v os) : ∃ a c, v = .slice a os.length c := by
  rcases h.2 with ⟨e, h0⟩ | ⟨g, cap, cur, e, h3, h4, h5, h6, h7, h8⟩
  · exact ⟨_, _, by rw [e, h0]⟩
  · exact ⟨_, _, e⟩
theorem OwnO.far {w : World} {B : Nat} {v : Value} {os : List Opn} (h : OwnO w B v os) {o : Nat} (ho : o < B) (k : Nat) (x : Value) : OwnO (w.setCell ⟨o, k, none⟩ x) B v os :=
  own_frame h fun g hg => heap_setCell_other _ _ _ _ fun e => by have := (h.lt g hg).1; simp only at e; omega
theorem u8r (x : Int) (h : 0 ≤ x ∧ x ≤ 255) : IntKind.u8.wrap x = x := by
  have : IntKind.u8.wrap x = x % 256 := by simp [IntKind.wrap, IntKind.bits, IntKind.signed]
  rw [this]; omega
theorem US.noncells (h : US w W s a bad f) : W.cell? ⟨w.heap.size + 1 + 1, 0, none⟩ = some (.int .i64 0) ∧ W.cell? ⟨w.heap.size + 1 + 1, 1, none⟩ = some (.int .u32 0) ∧ W.cell? ⟨w.heap.size + 1 + 1, 2, none⟩ = some (.int .u64 0) ∧ W.cell? ⟨w.heap.size + 1 + 1, 3, none⟩ = some (.int .u64 0) ∧ W.cell? ⟨w.heap.size + 1 + 1, 4, none⟩ = some (.int .u8 0) ∧ W.cell? ⟨w.heap.size + 1 + 1, 5, none⟩ = some (.int .u8 0) ∧ W.cell? ⟨w.heap.size + 1 + 1, 6, none⟩ = some (.int .u8 0) ∧ W.cell? ⟨w.heap.size + 1 + 1, 7, none⟩ = some (.slice none 0 0) :=
  ⟨h.non.cell (by omega), h.non.cell (by omega), h.non.cell (by omega), h.non.cell (by omega), h.non.cell (by omega), h.non.cell (by omega), h.non.cell (by omega), h.non.cell (by omega)⟩
theorem US.frcells {k ss lo hi d0 d1 d2 : Int} {v : Value} (h : US w W s a bad (fr8 k ss lo hi d0 d1 d2 v)) : W.cell? ⟨w.heap.size + 1 + 1 + 1 + 1, 0, none⟩ = some (.int .i64 k) ∧ W.cell? ⟨w.heap.size + 1 + 1 + 1 + 1, 1, none⟩ = some (.int .u32 ss) ∧ W.cell? ⟨w.heap.size + 1 + 1 + 1 + 1, 2, none⟩ = some (.int .u64 lo) ∧ W.cell? ⟨w.heap.size + 1 + 1 + 1 + 1, 3, none⟩ = some (.int .u64 hi) ∧ W.cell? ⟨w.heap.size + 1 + 1 + 1 + 1, 4, none⟩ = some (.int .u8 d0) ∧ W.cell? ⟨w.heap.size + 1 + 1 + 1 + 1, 5, none⟩ = some (.int .u8 d1) ∧ W.cell? ⟨w.heap.size + 1 + 1 + 1 + 1, 6, none⟩ = some (.int .u8 d2) ∧ W.cell? ⟨w.heap.size + 1 + 1 + 1 + 1, 7, none⟩ = some (v) :=
  ⟨h.fr.cell (by omega), h.fr.cell (by omega), h.fr.cell (by omega), h.fr.cell (by omega), h.fr.cell (by omega), h.fr.cell (by omega), h.fr.cell (by omega), h.fr.cell (by omega)⟩
theorem OwnO.put {w : World} {B : Nat} {v : Value} {os : List Opn} (h : OwnO w B v os) {o : Nat} (ho : o < B) (cs : Array Value) : OwnO (w.setRow o cs) B v os :=
  own_frame h fun g hg => setRow_other _ _ _ _ (by have := (h.lt g hg).1; omega)
theorem OwnO.keep {w w' : World} {B : Nat} {v : Value} {os : List Opn} (h : OwnO w B v os) (hb : Below w.heap.size w w') : OwnO w' B v os := own_frame h fun g hg => hb.block g (h.lt g hg).2
theorem bytes_ne {t s : ByteArray} (h : ¬ t = s) : (t.toList == s.toList) = false := by
  refine beq_eq_false_iff_ne.2 fun e => h ?_
  rw [Go.ByteArray.toList_eq, Go.ByteArray.toList_eq] at e
  cases t; cases s
  exact congrArg _ (Array.toList_inj.1 e)
theorem US.badc (h : US w W s a bad f) : W.cell? ⟨w.heap.size + 1 + 1 + 1, 2, none⟩ = some (.bool bad) := h.inr.cell (by omega)
end
set_option maxRecDepth 100000 in
set_option maxHeartbeats 4000000 in
theorem runp_any (s : ByteArray) (hs : s.size ≤ 140737488355328) (w : World) : Calls Tryz.prog 128 #[.agg (rowOf 72 fun j => .int .u32 (RV j)), .string s] w fun e w' => KU (dl s) w.heap.size e w' ∧ Below w.heap.size w w' := by
  obtain ⟨W3, hW3⟩ : ∃ x, x = ((w.alloc (.cells (rowOf 72 fun j => .int .u32 (RV j)) 80)).alloc (.cells #[.int .i64 0, .int .u32 0, .int .u64 0, .int .u64 0, .int .u8 0, .int .u8 0, .int .u8 0, .slice none 0 0] 58)).alloc (.cells #[.int .i64 0, .int .u32 0, .int .u64 0, .int .u64 0, .int .u8 0, .int .u8 0, .int .u8 0, .slice none 0 0] 58) := ⟨_, rfl⟩
  have B3 : Below w.heap.size w W3 := by subst hW3; exact ((below1' _ _).trans ((below1' _ _).mono (by first | (simp; done) | (simp; omega)))).trans ((below1' _ _).mono (by first | (simp; done) | (simp; omega)))
  have R0 : RowIs W3 w.heap.size 80 72 fun j => .int .u32 (RV j) := by subst hW3; exact ((RowIs.new _ _ _ _).alloc _).alloc _
  have R1 : RowIs W3 (w.heap.size + 1) 58 8 (fr8 0 0 0 0 0 0 0 (.slice none 0 0)) := by subst hW3; refine RowIs.alloc ?_ _; exact RowIs.last (by simp) rfl
  have R2 : RowIs W3 (w.heap.size + 1 + 1) 58 8 (fr8 0 0 0 0 0 0 0 (.slice none 0 0)) := by subst hW3; exact RowIs.last (by simp) rfl
  have S3 : W3.heap.size = w.heap.size + 1 + 1 + 1 := by subst hW3; simp
  have HW3 : Hid (W3 = _) := hW3
  clear hW3
  by_cases h4 : s.size < 4
  · have h4' : (s.size : Int) < 4 := by omega
    have Hno : Hid (∀ f, ¬ Good f (dl s)) := fun f h => by have := good_four h; omega
    go_enter Tryz.func128, Tryz.ntmps128
    go_wp2_with fail
    rw [← HW3.out]
    exact bodyPost_ret (results_cell_tmp Tryz.results128 _ _ (w.heap.size + 1) 58 _ (0, 0) _ _ rfl rfl R1 Tryz.underlying58 rfl infoFr) rfl ⟨KU.no Hno.out, B3⟩
  · have h4' : ¬ (s.size : Int) < 4 := by omega
    obtain ⟨b, hb⟩ : ∃ b, b = s.extract 0 (s.size - 3) := ⟨_, rfl⟩
    have hbs : b.size = s.size - 3 := by rw [hb, ByteArray.size_extract]; omega
    have HB : Hid (b = _) := hb
    clear hb
    obtain ⟨p3, p4⟩ : (fewL b (nextAt b 0) (decide (b.size ≤ 0))).2.1 ≤ b.size ∧ b.size ≤ 140737488355328 := ⟨(fewL_r b (nextAt b 0) (decide (b.size ≤ 0)) (next_r b 0 (Nat.zero_le _))).2.2, by omega⟩
    obtain ⟨f1, hf1⟩ : ∃ x, x = fewL b (nextAt b 0) (decide (b.size ≤ 0)) := ⟨_, rfl⟩
    rw [← hf1] at p3
    have HF1 : Hid (f1 = _) := hf1
    clear hf1
    go_enter Tryz.func128, Tryz.ntmps128
    go_upto_if 37 with (first
      | (go_at_call 206; rw [← HW3.out, ← HB.out]; refine (inbyte_any (w.heap.size + 1 + 1 + 1) b 0 false p4 (Nat.zero_le _) _ (RowIs.last S3.symm rfl)).mono ?_; rintro e w4 ⟨rfl, hr4', hb4, hs4'⟩; have hr4 : RowIs w4 (w.heap.size + 1 + 1 + 1) 291 3 (inc b (nextAt b 0) (decide (b.size ≤ 0))) := hr4'; have hs4 : w4.heap.size = w.heap.size + 1 + 1 + 1 + 1 := by rw [hs4']; simp [S3])
      | (go_at_call 207; have U4 := US.start B3 R0 R1 R2 hb4 hr4 hs4 (byAt b 0); refine (infew_any _ b (nextAt b 0) _ p4 (next_r _ _ (Nat.zero_le _)) _ U4.inr).mono ?_; rw [← HF1.out]; rintro e w5 ⟨rfl, hr5, hb5, hs5⟩; have U5q := U4.read hb5 hr5; have f5c := U5q.fr.cell (show 1 < 8 by omega); have f5f := U5q.fr.free 1; have U5 := U5q.set (f' := fr8 (byAt b 0) f1.1 0 0 0 0 0 (.slice none 0 0)) 1 (.int .u32 f1.1) (fun i hi => by match i, hi with | 0, _ => rfl | 1, _ => rfl | 2, _ => rfl | 3, _ => rfl | 4, _ => rfl | 5, _ => rfl | 6, _ => rfl | 7, _ => rfl); have f50 : World.cell? _ ⟨w.heap.size + 1 + 1 + 1 + 1, 0, none⟩ = some (.int .i64 (byAt b 0)) := U5.fr.cell (show 0 < 8 by omega); clear hs5 hs4' hs4 hb4 hr4' hr4 U4 hr5 hb5))
    obtain ⟨LO, hLO⟩ : ∃ x, x = (if byAt b 0 = 5 then (0, f1.2.1, f1.2.2) else numL b 8 0 f1.2.1 f1.2.2 0) := ⟨_, rfl⟩
    obtain ⟨HI, hHI⟩ : ∃ x, x = (if byAt b 0 = 5 then (0, f1.2.1, f1.2.2) else numL b 8 0 LO.2.1 LO.2.2 0) := ⟨_, rfl⟩
    have l3 : LO.2.1 ≤ b.size := by
      rw [hLO]
      split
      · exact p3
      · exact (numL_r b 8 0 _ _ 0 (by omega) (by decide) (by omega) p3).2.2
    have i3 : HI.2.1 ≤ b.size := by
      rw [hHI]
      split
      · exact p3
      · exact (numL_r b 8 0 _ _ 0 (by omega) (by decide) (by omega) l3).2.2
    have HLO : Hid (LO = _) := hLO
    have HHI : Hid (HI = _) := hHI
    clear hLO hHI
    go_cut [5] (fun sv wx => sv = .int .i64 0 ∧ US w wx b HI.2.1 HI.2.2 (fr8 (byAt b 0) f1.1 LO.1 HI.1 0 0 0 (.slice none 0 0)))
    case first =>
      by_cases k5 : byAt b 0 = 5
      · have e1 : LO = (0, f1.2.1, f1.2.2) := by rw [HLO.out, if_pos k5]
        have e2 : HI = (0, f1.2.1, f1.2.2) := by rw [HHI.out, if_pos k5]
        have HE : Hid (LO = _ ∧ HI = _) := ⟨e1, e2⟩
        clear e1 e2
        go_wp2_with fail
        go_meet
        exact ⟨rfl, by rw [HE.out.1, HE.out.2]; exact U5⟩
      · have e1 : LO = numL b 8 0 f1.2.1 f1.2.2 0 := by rw [HLO.out, if_neg k5]
        have e2 : HI = numL b 8 0 LO.2.1 LO.2.2 0 := by rw [HHI.out, if_neg k5]
        have HE : Hid (LO = _ ∧ HI = _) := ⟨e1, e2⟩
        clear e1 e2
        go_wp2_with (first
          | (go_at_call 208; have hq := U6; clear hq; refine (innum_any _ b LO.2.1 LO.2.2 p4 l3 _ U6.inr).mono ?_; rw [← HE.out.2]; rintro e w7 ⟨rfl, hr7, hb7, hs7⟩; have U7q := U6.read hb7 hr7; have f7c := U7q.fr.cell (show 3 < 8 by omega); have f7f := U7q.fr.free 3; have U7 := U7q.set (f' := fr8 (byAt b 0) f1.1 LO.1 HI.1 0 0 0 (.slice none 0 0)) 3 (.int .u64 HI.1) (fun i hi => by match i, hi with | 0, _ => rfl | 1, _ => rfl | 2, _ => rfl | 3, _ => rfl | 4, _ => rfl | 5, _ => rfl | 6, _ => rfl | 7, _ => rfl); clear hs7 hr7 hb7)
          | (go_at_call 208; refine (innum_any _ b f1.2.1 f1.2.2 p4 p3 _ U5.inr).mono ?_; rw [← HE.out.1]; rintro e w6 ⟨rfl, hr6, hb6, hs6⟩; have U6q := U5.read hb6 hr6; have f6c := U6q.fr.cell (show 2 < 8 by omega); have f6f := U6q.fr.free 2; have U6 := U6q.set (f' := fr8 (byAt b 0) f1.1 LO.1 0 0 0 0 (.slice none 0 0)) 2 (.int .u64 LO.1) (fun i hi => by match i, hi with | 0, _ => rfl | 1, _ => rfl | 2, _ => rfl | 3, _ => rfl | 4, _ => rfl | 5, _ => rfl | 6, _ => rfl | 7, _ => rfl); clear hs6 hr6 hb6))
        go_meet
        exact ⟨rfl, U7⟩
    case rest =>
      clear U5 U5q f5c f5f f50
      obtain ⟨rfl, U8⟩ := hcut
      have f80 : World.cell? _ ⟨w.heap.size + 1 + 1 + 1 + 1, 0, none⟩ = some (.int .i64 (byAt b 0)) := U8.fr.cell (show 0 < 8 by omega)
      go_upto_if 46 with fail
      obtain ⟨DG, hDG⟩ : ∃ x : (Int × Int × Int) × Nat × Bool, x = (if byAt b 0 = 1 then ((byAt b HI.2.1, byAt b (nextAt b HI.2.1), byAt b (nextAt b (nextAt b HI.2.1))), nextAt b (nextAt b (nextAt b HI.2.1)), ((HI.2.2 || decide (b.size ≤ HI.2.1)) || decide (b.size ≤ nextAt b HI.2.1)) || decide (b.size ≤ nextAt b (nextAt b HI.2.1))) else ((0, 0, 0), HI.2.1, HI.2.2)) := ⟨_, rfl⟩
      have d2 : DG.2.1 ≤ b.size := by
        rw [hDG]
        split
        · exact next_r _ _ (next_r _ _ (next_r _ _ i3))
        · exact i3
      have HDG : Hid (DG = _) := hDG
      clear hDG
      go_cut [5] (fun sv wx => sv = .int .i64 0 ∧ US w wx b DG.2.1 DG.2.2 (fr8 (byAt b 0) f1.1 LO.1 HI.1 DG.1.1 DG.1.2.1 DG.1.2.2 (.slice none 0 0)))
      case first =>
        by_cases k5 : byAt b 0 = 1
        · obtain ⟨A1, hA1⟩ : ∃ x, x = nextAt b HI.2.1 := ⟨_, rfl⟩
          obtain ⟨A2, hA2⟩ : ∃ x, x = nextAt b A1 := ⟨_, rfl⟩
          obtain ⟨A3, hA3⟩ : ∃ x, x = nextAt b A2 := ⟨_, rfl⟩
          have e1 : DG = ((byAt b HI.2.1, byAt b A1, byAt b A2), A3, ((HI.2.2 || decide (b.size ≤ HI.2.1)) || decide (b.size ≤ A1)) || decide (b.size ≤ A2)) := by rw [HDG.out, if_pos k5, hA3, hA2, hA1]
          have q1 : A1 ≤ b.size := by rw [hA1]; exact next_r _ _ i3
          have q2 : A2 ≤ b.size := by rw [hA2]; exact next_r _ _ q1
          have HE : Hid (DG = _) := e1
          have HA : Hid (A1 = nextAt b HI.2.1 ∧ A2 = nextAt b A1 ∧ A3 = nextAt b A2) := ⟨hA1, hA2, hA3⟩
          clear e1 hA1 hA2 hA3
          have v1 : IntKind.u8.wrap (byAt b HI.2.1) = byAt b HI.2.1 := u8r _ (byAt_r _ _)
          have v2 : IntKind.u8.wrap (byAt b A1) = byAt b A1 := u8r _ (byAt_r _ _)
          have v3 : IntKind.u8.wrap (byAt b A2) = byAt b A2 := u8r _ (byAt_r _ _)
          go_wp2_with (first
            | (go_at_call 206; have hq := UB; clear hq; refine (inbyte_any _ b A2 _ p4 q2 _ UB.inr).mono ?_; rintro e wc3 ⟨rfl, hr, hb9, hs9⟩; have UC := UB.read hb9 (a2 := A3) (by rw [HA.out.2.2]; exact hr); have c4 := UC.fr.cell (show 4 < 8 by omega); have c5 := UC.fr.cell (show 5 < 8 by omega); have c6 := UC.fr.cell (show 6 < 8 by omega); have f7f := UC.fr.free; have UD := ((UC.set (f' := fr8 (byAt b 0) f1.1 LO.1 HI.1 (byAt b HI.2.1) 0 0 (.slice none 0 0)) 4 (.int .u8 (byAt b HI.2.1)) (fun i hi => by match i, hi with | 0, _ => rfl | 1, _ => rfl | 2, _ => rfl | 3, _ => rfl | 4, _ => rfl | 5, _ => rfl | 6, _ => rfl | 7, _ => rfl)).set (f' := fr8 (byAt b 0) f1.1 LO.1 HI.1 (byAt b HI.2.1) (byAt b A1) 0 (.slice none 0 0)) 5 (.int .u8 (byAt b A1)) (fun i hi => by match i, hi with | 0, _ => rfl | 1, _ => rfl | 2, _ => rfl | 3, _ => rfl | 4, _ => rfl | 5, _ => rfl | 6, _ => rfl | 7, _ => rfl)).set (f' := fr8 (byAt b 0) f1.1 LO.1 HI.1 (byAt b HI.2.1) (byAt b A1) (byAt b A2) (.slice none 0 0)) 6 (.int .u8 (byAt b A2)) (fun i hi => by match i, hi with | 0, _ => rfl | 1, _ => rfl | 2, _ => rfl | 3, _ => rfl | 4, _ => rfl | 5, _ => rfl | 6, _ => rfl | 7, _ => rfl); clear hs9 hr hb9)
            | (go_at_call 206; have hq := UA; clear hq; refine (inbyte_any _ b A1 _ p4 q1 _ UA.inr).mono ?_; rintro e wc2 ⟨rfl, hr, hb9, hs9⟩; have UB := UA.read hb9 (a2 := A2) (by rw [HA.out.2.1]; exact hr); clear hs9 hr hb9)
            | (go_at_call 206; refine (inbyte_any _ b HI.2.1 HI.2.2 p4 i3 _ U8.inr).mono ?_; rintro e wc1 ⟨rfl, hr, hb9, hs9⟩; have UA := U8.read hb9 (a2 := A1) (by rw [HA.out.1]; exact hr); clear hs9 hr hb9))
          go_meet
          exact ⟨rfl, by rw [HE.out]; exact UD⟩
        · have e1 : DG = ((0, 0, 0), HI.2.1, HI.2.2) := by rw [HDG.out, if_neg k5]
          have HE : Hid (DG = _) := e1
          clear e1
          go_wp2_with fail
          go_meet
          exact ⟨rfl, by rw [HE.out]; exact U8⟩
      case rest =>
        clear U8 f80
        obtain ⟨rfl, U9⟩ := hcut
        have f80 : World.cell? _ ⟨w.heap.size + 1 + 1 + 1 + 1, 0, none⟩ = some (.int .i64 (byAt b 0)) := U9.fr.cell (show 0 < 8 by omega)
        go_upto_if 63 with fail
        obtain ⟨OS, hOS⟩ : ∃ x : List Opn × Nat × Bool, x = (if 2 < byAt b 0 then opsL b (byAt b DG.2.1).toNat (nextAt b DG.2.1) (DG.2.2 || decide (b.size ≤ DG.2.1)) else ([], DG.2.1, DG.2.2)) := ⟨_, rfl⟩
        have HOS : Hid (OS = _) := hOS
        clear hOS
        go_cut [5] (fun sv wx => sv = .int .i64 0 ∧ ∃ sl, OwnO wx (w.heap.size + 1 + 1 + 1 + 1 + 1) sl OS.1 ∧ US w wx b OS.2.1 OS.2.2 (fr8 (byAt b 0) f1.1 LO.1 HI.1 DG.1.1 DG.1.2.1 DG.1.2.2 sl))
        case first =>
          by_cases k5 : 2 < byAt b 0
          · obtain ⟨N, hN⟩ : ∃ N : Nat, byAt b DG.2.1 = (N : Int) := ⟨(byAt b DG.2.1).toNat, by have := (byAt_r b DG.2.1).1; omega⟩
            have hN2 : N ≤ 255 := by have := (byAt_r b DG.2.1).2; omega
            obtain ⟨A1, hA1⟩ : ∃ x, x = nextAt b DG.2.1 := ⟨_, rfl⟩
            obtain ⟨bd1, hbd1⟩ : ∃ x, x = (DG.2.2 || decide (b.size ≤ DG.2.1)) := ⟨_, rfl⟩
            have e1 : OS = opsL b N A1 bd1 := by rw [HOS.out, if_pos k5, hN, hA1, hbd1]; rfl
            have q1 : A1 ≤ b.size := by rw [hA1]; exact next_r _ _ d2
            have HE : Hid (OS = _) := e1
            have HA : Hid (byAt b DG.2.1 = (N : Int) ∧ A1 = nextAt b DG.2.1 ∧ bd1 = (DG.2.2 || decide (b.size ≤ DG.2.1))) := ⟨hN, hA1, hbd1⟩
            clear e1 hA1 hbd1 hN
            obtain ⟨io, hio, hzo0, hzo1, hzo2⟩ := info_parts infoO
            go_wp2_with (first
              | (go_at_call 206; refine (inbyte_any _ b DG.2.1 DG.2.2 p4 d2 _ U9.inr).mono ?_; rw [HA.out.1]; rintro e wc1 ⟨rfl, hr, hb9, hs9⟩; have UA := U9.read hb9 (a2 := A1) (bad2 := bd1) (by rw [HA.out.2.1, HA.out.2.2]; exact hr); clear hs9 hr hb9))
            go_loopw [13] (fun iv wr => ∃ (i : Nat) (os1 : List Opn) (a1 : Nat) (bad1 : Bool) (sl : Value), i ≤ N ∧ iv = .int .i64 i ∧ os1.length = i ∧ a1 ≤ b.size ∧ OwnO wr (w.heap.size + 1 + 1 + 1 + 1 + 1) sl os1 ∧ US w wr b a1 bad1 (fr8 (byAt b 0) f1.1 LO.1 HI.1 DG.1.1 DG.1.2.1 DG.1.2.2 sl) ∧ OS = (os1 ++ (opsL b (N - i) a1 bad1).1, (opsL b (N - i) a1 bad1).2)) (fun iv _ => N - (intOf iv).toNat)
            case atStart => exact ⟨0, [], A1, bd1, .slice none 0 0, Nat.zero_le _, rfl, rfl, q1, World.ownsRow_nil _ _ _ _, UA, by rw [HE.out]; rfl⟩
            case round =>
              obtain ⟨i, os1, a1, bad1, sl, hi', rfl, hos', ha1, hown, hU, hOSe⟩ := hrel
              have hos : Hid (os1.length = i) := hos'
              clear UA U9 f80 hos'
              have cb := hU.badc
              obtain ⟨ga, ca, rfl⟩ := hown.form
              have f7 : World.cell? _ ⟨w.heap.size + 1 + 1 + 1 + 1, 7, none⟩ = some (.slice ga os1.length ca) := hU.fr.cell (show 7 < 8 by omega)
              have HOSe : Hid (OS = _) := hOSe
              clear hOSe
              have hlen : os1.length ≤ 255 := by have := hos.out; omega
              by_cases hlt : i < N
              · have li : (i : Int) < (N : Int) := by omega
                obtain ⟨m, hm⟩ : ∃ m, N - i = m + 1 := ⟨N - i - 1, by omega⟩
                have HM : Hid (N - i = m + 1) := hm
                clear hm
                cases bad1 with
                | true =>
                  go_wp2_with fail
                  go_meet
                  have e : OS = (os1, a1, true) := by rw [HOSe.out, HM.out, opsL]; simp
                  exact ⟨rfl, _, by rw [e]; exact hown, by rw [e]; exact hU⟩
                | false =>
                  obtain ⟨o, ho⟩ : ∃ o, o = opL b a1 false := ⟨_, rfl⟩
                  have hoa : o.at_ ≤ b.size := by rw [ho]; exact (opL_T b a1 false ha1).2
                  have HO : Hid (o = opL b a1 false) := ho
                  clear ho
                  go_wp2_with (first
                    | (go_at_call 209; refine (inop_any _ b a1 false p4 ha1 _ hU.inr).mono ?_; rw [← HO.out]; rintro e w3 ⟨rfl, hr3, hb3⟩; have U3 := hU.read hb3 hr3; have hown3 := hown.but hb3 (Nat.lt_succ_of_lt (Nat.lt_succ_self _)); have hz3 : w.heap.size + 1 + 1 + 1 + 1 + 1 ≤ w3.heap.size := U3.fr.lt; have f73 : ∀ ob, (w3.alloc ob).cell? ⟨w.heap.size + 1 + 1 + 1 + 1, 7, none⟩ = some (.slice ga os1.length ca) := (fun ob => (U3.kept (below1' _ ob)).fr.cell (show 7 < 8 by omega)); clear hr3 hb3)
                    | (at_builtin; refine wpList_append_own_at _ rfl (.tmp 81) (.tmp 83) 32 rfl (w.heap.size + 1 + 1 + 1 + 1 + 1) 43 io (.agg #[.int .i64 0, .int .u32 0, .int .u32 0, .int .u32 0, .int .u64 0, .int .i32 0]) 6 40 Tryz.underlying32 hio hzo0 hzo1 hzo2 rfl (by decide) _ os1.length (opCs os1) rfl ((World.ownsRow.alloc hown3 _).alloc _) ⟨w3.heap.size + 1, 0, none⟩ 1 1 [.int .i64 o.kd, .int .u32 o.cl, .int .u32 o.ck, .int .u32 o.st, .int .u64 o.rf, .int .i32 o.ch] rfl rfl ?hn (by simp [Value.oneCell']) (by unfold maxLen; omega) (by omega) (by simp; omega) ?_; (case hn => exact news6 w3 _ _); intro v6 w6 ho6 hg6 _ hat6; have ho6' : OwnO w6 (w.heap.size + 1 + 1 + 1 + 1 + 1) v6 (os1 ++ [o.op]) := (by unfold OwnO; rw [List.length_append, opCs_app]; exact ho6); have U6q := (U3.kept ((below1' _ _).trans ((below1' _ _).mono (by simp)))).grown hg6 (fun y e => (hown3.lt y e).1); have f6c := U6q.fr.cell (show 7 < 8 by omega); have f6f := U6q.fr.free 7; obtain ⟨g6, c6, hv6'⟩ := ho6'.form; have hv6 : v6 = .slice g6 (os1.length + 1) c6 := (by rw [hv6', List.length_append]; rfl); clear hv6'; subst hv6; have U6 := U6q.set (f' := fr8 (byAt b 0) f1.1 LO.1 HI.1 DG.1.1 DG.1.2.1 DG.1.2.2 (.slice g6 (os1.length + 1) c6)) 7 (.slice g6 (os1.length + 1) c6) (fun i hi => by match i, hi with | 0, _ => rfl | 1, _ => rfl | 2, _ => rfl | 3, _ => rfl | 4, _ => rfl | 5, _ => rfl | 6, _ => rfl | 7, _ => rfl); have ho7 := ho6'.far (o := w.heap.size + 1 + 1 + 1 + 1) (Nat.lt_succ_self _) 7 (.slice g6 (os1.length + 1) c6)))
                  go_roundw
                  case rel => exact ⟨i + 1, os1 ++ [o.op], o.at_, o.bad, _, hlt, by go_num, by rw [List.length_append, hos.out]; rfl, hoa, ho7, U6, by
                    rw [HOSe.out, HM.out, opsL, show N - (i + 1) = m by have := HM.out; omega, ← HO.out]; simp⟩
                  case measure => simp [intOf]; omega
              · obtain rfl : i = N := by omega
                go_wp2_with fail
                go_meet
                have e : OS = (os1, a1, bad1) := by rw [HOSe.out, Nat.sub_self, opsL]; simp
                exact ⟨rfl, _, by rw [e]; exact hown, by rw [e]; exact hU⟩
          · have e1 : OS = ([], DG.2.1, DG.2.2) := by rw [HOS.out, if_neg k5]
            have HE : Hid (OS = _) := e1
            clear e1
            go_wp2_with fail
            go_meet
            exact ⟨rfl, .slice none 0 0, by rw [HE.out]; exact World.ownsRow_nil _ _ _ _, by rw [HE.out]; exact U9⟩
        case rest =>
          clear U9 f80
          obtain ⟨rfl, sl, hown, UE⟩ := hcut
          obtain ⟨ga, ca, rfl⟩ := hown.form
          have eF : frL b = (⟨byAt b 0, f1.1, LO.1, HI.1, DG.1.1, DG.1.2.1, DG.1.2.2, OS.1⟩, OS.2.2) := by
            rw [HOS.out, HDG.out, HHI.out, HLO.out, HF1.out]; rfl
          have hG : ∀ f, Good f (dl s) → f = ⟨byAt b 0, f1.1, LO.1, HI.1, DG.1.1, DG.1.2.1, DG.1.2.2, OS.1⟩ ∧ OS.2.2 = false := fun f h => by
            have := good_frL h
            rw [← HB.out, eF] at this
            exact ⟨(congrArg Prod.fst this).symm, congrArg Prod.snd this⟩
          have hTT : FrmT ⟨byAt b 0, f1.1, LO.1, HI.1, DG.1.1, DG.1.2.1, DG.1.2.2, OS.1⟩ ∧ OS.1.length ≤ 255 := by
            have := frL_T b
            rw [eF] at this
            exact this
          have HT : Hid (FrmT _ ∧ _) := hTT
          have HG : Hid (∀ f, Good f (dl s) → _) := hG
          clear hTT hG eF
          clear HOS HDG HHI HLO HF1 d2 i3 l3 p3
          generalize byAt b 0 = k at *
          generalize f1.1 = ss at *
          generalize LO.1 = lo at *
          generalize HI.1 = hi at *
          generalize DG.1.1 = d0 at *
          generalize DG.1.2.1 = d1 at *
          generalize DG.1.2.2 = d2 at *
          generalize OS.1 = os at *
          generalize OS.2.2 = bd at *
          have cb := UE.badc
          obtain ⟨n0, n1, n2, n3, n4, n5, n6, n7⟩ := UE.noncells
          cases bd with
          | true =>
            go_wp2_with (refine wpList_store_row rfl 58 (.tmp 4) (.tmp 90) rfl (w.heap.size + 1) _ rfl rfl _ _ UE.res (by exact infoFr) (by rw [rowOf_size]; rfl) (by simp [Value.oneCell']) ?_)
            exact bodyPost_ret (results_cell_tmp Tryz.results128 _ _ (w.heap.size + 1) 58 _ (0, 0) _ _ rfl rfl (UE.res.setRow (fr8 0 0 0 0 0 0 0 (.slice none 0 0))) Tryz.underlying58 rfl infoFr) rfl ⟨KU.no fun f h => Bool.noConfusion (HG.out f h).2, below_setRow' UE.below (Nat.le_succ _) _⟩
          | false =>
            have HR : Hid (World.rangeAt _ w.heap.size 0 (rowOf 72 fun j => .int .u32 (RV j)).toList) := range72 UE.roots
            obtain ⟨y0, y1, y2, y3, y4, y5, y6, y7⟩ := UE.frcells
            cases hok : okFrm ⟨k, ss, lo, hi, d0, d1, d2, os⟩ with
            | false =>
              have HP := rpack_bad ⟨k, ss, lo, hi, d0, d1, d2, os⟩ ga ca HT.out.1 (by have := HT.out.2; dsimp only; omega) wc hown.is hok
              unfold Frm.val at HP
              dsimp only at HP
              have HP' : Hid (Calls _ _ _ _ _) := HP
              have Hno : Hid (∀ f, ¬ Good f (dl s)) := fun f h => by
                obtain ⟨e, _⟩ := HG.out f h
                have := h.1
                rw [e, hok] at this
                cases this
              clear HP hok
              go_wp2_with (first | (refine wpList_load_mid rfl 80 _ rfl w.heap.size 0 rfl _ _ HR.out Tryz.underlying80 rfl (by rw [Array.length_toList, rowOf_size]; exact info30) ?_; simp only [Array.toArray_toList]) | (go_at_call 42; refine HP'.out.mono ?_; rintro e w9 ⟨rfl, hb9⟩; have UF := UE.kept hb9; obtain ⟨m0, m1, m2, m3, m4, m5, m6, m7⟩ := UF.noncells) | (refine wpList_store_row rfl 58 (.tmp 4) (.tmp 104) rfl (w.heap.size + 1) _ rfl rfl _ _ UF.res (by exact infoFr) (by rw [rowOf_size]; rfl) (by simp [Value.oneCell']) ?_))
              exact bodyPost_ret (results_cell_tmp Tryz.results128 _ _ (w.heap.size + 1) 58 _ (0, 0) _ _ rfl rfl (UF.res.setRow (fr8 0 0 0 0 0 0 0 (.slice none 0 0))) Tryz.underlying58 rfl infoFr) rfl ⟨KU.no Hno.out, below_setRow' UF.below (Nat.le_succ _) _⟩
            | true =>
              have HP := rpack_good ⟨k, ss, lo, hi, d0, d1, d2, os⟩ ga ca HT.out.1 wc hown.is hok
              unfold Frm.val at HP
              dsimp only at HP
              have HP' : Hid (Calls _ _ _ _ _) := HP
              clear HP
              by_cases heq : strOfNums (packL ⟨k, ss, lo, hi, d0, d1, d2, os⟩) = s
              · have hgood : Good ⟨k, ss, lo, hi, d0, d1, d2, os⟩ (dl s) := good_mk hok HT.out.1.t heq
                rw [heq] at HP'
                have Hgd : Hid (Good _ _) := hgood
                clear hok heq hgood
                go_wp2_with (first | (refine wpList_load_mid rfl 80 _ rfl w.heap.size 0 rfl _ _ HR.out Tryz.underlying80 rfl (by rw [Array.length_toList, rowOf_size]; exact info30) ?_; simp only [Array.toArray_toList]) | (go_at_call 42; refine HP'.out.mono ?_; rintro e w9 ⟨rfl, hb9⟩; have UF := UE.kept hb9; obtain ⟨m0, m1, m2, m3, m4, m5, m6, m7⟩ := UF.frcells) | (refine wpList_store_row rfl 58 (.tmp 4) (.tmp 105) rfl (w.heap.size + 1) _ rfl rfl _ _ UF.res (by exact infoFr) (by rw [rowOf_size]; rfl) (by simp [Value.oneCell']) ?_))
                exact bodyPost_ret (results_cell_tmp Tryz.results128 _ _ (w.heap.size + 1) 58 _ (0, 0) _ _ rfl rfl (UF.res.setRow (fr8 k ss lo hi d0 d1 d2 (.slice ga os.length ca))) Tryz.underlying58 rfl infoFr) rfl ⟨KU.yes Hgd.out (((OwnO.keep hown hb9).put (by omega) _).base (by omega)), below_setRow' UF.below (Nat.le_succ _) _⟩
              · have Hno : Hid (∀ f, ¬ Good f (dl s)) := fun f h => by
                  obtain ⟨e, _⟩ := HG.out f h
                  rw [e] at h
                  exact heq (good_eq h)
                generalize strOfNums (packL ⟨k, ss, lo, hi, d0, d1, d2, os⟩) = t at HP' heq
                have hne := bytes_ne heq
                clear hok heq
                go_wp2_with (first | (refine wpList_load_mid rfl 80 _ rfl w.heap.size 0 rfl _ _ HR.out Tryz.underlying80 rfl (by rw [Array.length_toList, rowOf_size]; exact info30) ?_; simp only [Array.toArray_toList]) | (go_at_call 42; refine HP'.out.mono ?_; rintro e w9 ⟨rfl, hb9⟩; have UF := UE.kept hb9; obtain ⟨m0, m1, m2, m3, m4, m5, m6, m7⟩ := UF.noncells) | (refine wpList_store_row rfl 58 (.tmp 4) (.tmp 104) rfl (w.heap.size + 1) _ rfl rfl _ _ UF.res (by exact infoFr) (by rw [rowOf_size]; rfl) (by simp [Value.oneCell']) ?_))
                exact bodyPost_ret (results_cell_tmp Tryz.results128 _ _ (w.heap.size + 1) 58 _ (0, 0) _ _ rfl rfl (UF.res.setRow (fr8 0 0 0 0 0 0 0 (.slice none 0 0))) Tryz.underlying58 rfl infoFr) rfl ⟨KU.no Hno.out, below_setRow' UF.below (Nat.le_succ _) _⟩
end Go.Proofs.YtgccjefbedpmpaaGreatDoor
namespace Go.Proofs.YtgccjefbedpmpaaGreatDoor
open Go.RowKit
set_option maxRecDepth 100000 in
set_option maxHeartbeats 1000000 in
theorem sameOps_any (xs : List Opn) (a b : Option Addr) (c d : Nat) (w : World) (hn : xs.length ≤ 9223372036854775807) (ha : OpsIs w a xs) (hb : OpsIs w b xs) :
    Calls Tryz.prog 210 #[.slice a xs.length c, .slice b xs.length d] w fun e w' => e = .returned (.bool true) ∧ Below w.heap.size w w' := by
  have HA : Hid (OpsIs w a xs ∧ OpsIs w b xs) := ⟨ha, hb⟩
  clear ha hb
  go_enter Tryz.func210, Tryz.ntmps210
  go_wp2_with fail
  go_loopw [5] (fun iv wr => ∃ i : Nat, i ≤ xs.length ∧ iv = .int .i64 i ∧ Below w.heap.size w wr) (fun iv _ => xs.length - (intOf iv).toNat)
  case atStart => exact ⟨0, Nat.zero_le _, rfl, Below.refl _ _⟩
  case round =>
    obtain ⟨i, hi, rfl, hbl⟩ := hrel
    by_cases hlt : i < xs.length
    · have li : (i : Int) < (xs.length : Int) := by omega
      obtain ⟨h1, h2⟩ := HA.out
      rcases h1 with h0 | ⟨g, off, rfl, h1⟩
      · subst h0; cases hlt
      rcases h2 with h0 | ⟨g', off', rfl, h2⟩
      · subst h0; cases hlt
      have hq := (h1.below hbl).cells hlt
      have hr := (h2.below hbl).cells hlt
      clear h1 h2
      go_wp2_with fail
      refine wp_region_held_drew (S := fun w' => Below w.heap.size w w' ∧ (w'.cell? ⟨g, off + i * 6, none⟩ = some (.int .i64 xs[i].kd) ∧ w'.cell? ⟨g, off + i * 6 + 1, none⟩ = some (.int .u32 xs[i].cl) ∧ w'.cell? ⟨g, off + i * 6 + 2, none⟩ = some (.int .u32 xs[i].ck) ∧ w'.cell? ⟨g, off + i * 6 + 3, none⟩ = some (.int .u32 xs[i].st) ∧ w'.cell? ⟨g, off + i * 6 + 4, none⟩ = some (.int .u64 xs[i].rf) ∧ w'.cell? ⟨g, off + i * 6 + 5, none⟩ = some (.int .i32 xs[i].ch)) ∧ w'.cell? ⟨g', off' + i * 6, none⟩ = some (.int .i64 xs[i].kd) ∧ w'.cell? ⟨g', off' + i * 6 + 1, none⟩ = some (.int .u32 xs[i].cl) ∧ w'.cell? ⟨g', off' + i * 6 + 2, none⟩ = some (.int .u32 xs[i].ck) ∧ w'.cell? ⟨g', off' + i * 6 + 3, none⟩ = some (.int .u32 xs[i].st) ∧ w'.cell? ⟨g', off' + i * 6 + 4, none⟩ = some (.int .u64 xs[i].rf) ∧ w'.cell? ⟨g', off' + i * 6 + 5, none⟩ = some (.int .i32 xs[i].ch)) (by kernel_rfl) ⟨hbl.drew, hq, hr⟩ (fun hHeld => ?_)
      generalize World.drew _ = wE at hHeld ⊢
      refine wpAnyH_take (i := 0) (oi := { dst := some 17, op := _, type := _, pos := _, after := _, guard := _ }) rfl (by kernel_rfl) (by kernel_rfl) (by kernel_rfl) (fun _ _ _ h => h) (Or.inl ⟨by rfl, fun w hS => by obtain ⟨⟨q0, q1, q2, q3, q4, q5⟩, r0, r1, r2, r3, r4, r5⟩ := hS.2; go_simp; rfl⟩) hHeld ?_
      simp only [Act.put, List.setIfInBounds_toArray, List.set_cons_zero, List.set_cons_succ]
      refine wpAnyH_take (i := 1) (oi := { dst := some 18, op := _, type := _, pos := _, after := _, guard := _ }) rfl (by kernel_rfl) (by kernel_rfl) (by kernel_rfl) (fun _ _ _ h => h) (Or.inl ⟨by rfl, fun w hS => by obtain ⟨⟨q0, q1, q2, q3, q4, q5⟩, r0, r1, r2, r3, r4, r5⟩ := hS.2; go_simp; rfl⟩) hHeld ?_
      simp only [Act.put, List.setIfInBounds_toArray, List.set_cons_zero, List.set_cons_succ]
      refine wpAnyH_take (i := 2) (oi := { dst := some 19, op := _, type := _, pos := _, after := _, guard := _ }) rfl (by kernel_rfl) (by kernel_rfl) (by kernel_rfl) (fun _ _ _ h => h) (Or.inl ⟨by rfl, fun w hS => by obtain ⟨⟨q0, q1, q2, q3, q4, q5⟩, r0, r1, r2, r3, r4, r5⟩ := hS.2; go_simp; rfl⟩) hHeld ?_
      simp only [Act.put, List.setIfInBounds_toArray, List.set_cons_zero, List.set_cons_succ]
      refine wpAnyH_take (i := 3) (oi := { dst := some 20, op := _, type := _, pos := _, after := _, guard := _ }) rfl (by kernel_rfl) (by kernel_rfl) (by kernel_rfl) (fun _ _ _ h => h) (Or.inl ⟨by rfl, fun w hS => by obtain ⟨⟨q0, q1, q2, q3, q4, q5⟩, r0, r1, r2, r3, r4, r5⟩ := hS.2; go_simp; rfl⟩) hHeld ?_
      simp only [Act.put, List.setIfInBounds_toArray, List.set_cons_zero, List.set_cons_succ]
      refine wpAnyH_take (i := 4) (oi := { dst := some 21, op := _, type := _, pos := _, after := _, guard := _ }) rfl (by kernel_rfl) (by kernel_rfl) (by kernel_rfl) (fun _ _ _ h => h) (Or.inl ⟨by rfl, fun w hS => by obtain ⟨⟨q0, q1, q2, q3, q4, q5⟩, r0, r1, r2, r3, r4, r5⟩ := hS.2; go_simp; rfl⟩) hHeld ?_
      simp only [Act.put, List.setIfInBounds_toArray, List.set_cons_zero, List.set_cons_succ]
      refine wpAnyH_take (i := 5) (oi := { dst := some 22, op := _, type := _, pos := _, after := _, guard := _ }) rfl (by kernel_rfl) (by kernel_rfl) (by kernel_rfl) (fun _ _ _ h => h) (Or.inl ⟨by rfl, fun w hS => by obtain ⟨⟨q0, q1, q2, q3, q4, q5⟩, r0, r1, r2, r3, r4, r5⟩ := hS.2; go_simp; rfl⟩) hHeld ?_
      simp only [Act.put, List.setIfInBounds_toArray, List.set_cons_zero, List.set_cons_succ]
      refine wpAnyH_take (i := 6) (oi := { dst := some 23, op := _, type := _, pos := _, after := _, guard := _ }) rfl (by kernel_rfl) (by kernel_rfl) (by kernel_rfl) (fun _ _ _ h => h) (Or.inl ⟨by rfl, fun w hS => by obtain ⟨⟨q0, q1, q2, q3, q4, q5⟩, r0, r1, r2, r3, r4, r5⟩ := hS.2; go_simp; rfl⟩) hHeld ?_
      simp only [Act.put, List.setIfInBounds_toArray, List.set_cons_zero, List.set_cons_succ]
      refine wpAnyH_take (i := 7) (oi := { dst := some 24, op := _, type := _, pos := _, after := _, guard := _ }) rfl (by kernel_rfl) (by kernel_rfl) (by kernel_rfl) (fun _ _ _ h => h) (Or.inl ⟨by rfl, fun w hS => by obtain ⟨⟨q0, q1, q2, q3, q4, q5⟩, r0, r1, r2, r3, r4, r5⟩ := hS.2; go_simp; rfl⟩) hHeld ?_
      simp only [Act.put, List.setIfInBounds_toArray, List.set_cons_zero, List.set_cons_succ]
      refine wpAnyH_take (i := 8) (oi := { dst := some 25, op := _, type := _, pos := _, after := _, guard := _ }) rfl (by kernel_rfl) (by kernel_rfl) (by kernel_rfl) (fun _ _ _ h => h) (Or.inl ⟨by rfl, fun w hS => by obtain ⟨⟨q0, q1, q2, q3, q4, q5⟩, r0, r1, r2, r3, r4, r5⟩ := hS.2; go_simp; rfl⟩) hHeld ?_
      simp only [Act.put, List.setIfInBounds_toArray, List.set_cons_zero, List.set_cons_succ]
      refine wpAnyH_done (by kernel_rfl) ?_ _
      go_wp2_with fail
      go_roundw
      case rel => exact ⟨i + 1, hlt, by go_num, hHeld.1⟩
      case measure => simp [intOf]; omega
    · obtain rfl : i = xs.length := by omega
      go_wp2_with fail
      go_ret
      exact ⟨rfl, hbl⟩
set_option maxRecDepth 100000 in
set_option maxHeartbeats 1000000 in
theorem sameFrame_any (f : Frm) (a b : Option Addr) (c d : Nat) (w : World) (hn : f.ops.length ≤ 9223372036854775807) (ha : OpsIs w a f.ops) (hb : OpsIs w b f.ops) :
    Calls Tryz.prog 129 #[f.val (.slice a f.ops.length c), f.val (.slice b f.ops.length d)] w fun e w' => e = .returned (.bool true) ∧ Below w.heap.size w w' := by
  obtain ⟨k, ss, lo, hi, d0, d1, d2, os⟩ := f
  unfold Frm.val
  dsimp only at *
  have HA : Hid (OpsIs w a os ∧ OpsIs w b os) := ⟨ha, hb⟩
  clear ha hb
  have hdg := eqDigG d0 d1 d2 d0 d1 d2
  obtain ⟨W, hW⟩ : ∃ x, x = (w.alloc (.cells #[.int .i64 k, .int .u32 ss, .int .u64 lo, .int .u64 hi, .int .u8 d0, .int .u8 d1, .int .u8 d2, .slice a os.length c] 58)).alloc (.cells #[.int .i64 k, .int .u32 ss, .int .u64 lo, .int .u64 hi, .int .u8 d0, .int .u8 d1, .int .u8 d2, .slice b os.length d] 58) := ⟨_, rfl⟩
  have RA : RowIs W w.heap.size 58 8 (fr8 k ss lo hi d0 d1 d2 (.slice a os.length c)) := by subst hW; refine RowIs.alloc ?_ _; exact RowIs.last rfl rfl
  have RB : RowIs W (w.heap.size + 1) 58 8 (fr8 k ss lo hi d0 d1 d2 (.slice b os.length d)) := by subst hW; exact RowIs.last (by simp) rfl
  have hBW : Below w.heap.size w W := by subst hW; exact (below1' _ _).trans ((below1' _ _).mono (by simp))
  have HW : Hid (W = _) := hW
  clear hW
  go_enter Tryz.func129, Tryz.ntmps129
  go_wp2_with (go_at_call 210; rw [← HW.out]; refine (sameOps_any os a b c d _ hn (HA.out.1.below hBW) (HA.out.2.below hBW)).mono ?_; rintro e w1 ⟨rfl, hb1⟩; obtain ⟨x0, x1, x2, x3, x4, x5, x6, x7⟩ : w1.cell? ⟨w.heap.size, 0, none⟩ = some (.int .i64 k) ∧ w1.cell? ⟨w.heap.size, 1, none⟩ = some (.int .u32 ss) ∧ w1.cell? ⟨w.heap.size, 2, none⟩ = some (.int .u64 lo) ∧ w1.cell? ⟨w.heap.size, 3, none⟩ = some (.int .u64 hi) ∧ w1.cell? ⟨w.heap.size, 4, none⟩ = some (.int .u8 d0) ∧ w1.cell? ⟨w.heap.size, 5, none⟩ = some (.int .u8 d1) ∧ w1.cell? ⟨w.heap.size, 6, none⟩ = some (.int .u8 d2) ∧ w1.cell? ⟨w.heap.size, 7, none⟩ = some (.slice a os.length c) := (have r := RA.below hb1 RA.lt; ⟨r.cell (by omega), r.cell (by omega), r.cell (by omega), r.cell (by omega), r.cell (by omega), r.cell (by omega), r.cell (by omega), r.cell (by omega)⟩); obtain ⟨z0, z1, z2, z3, z4, z5, z6, z7⟩ : w1.cell? ⟨w.heap.size + 1, 0, none⟩ = some (.int .i64 k) ∧ w1.cell? ⟨w.heap.size + 1, 1, none⟩ = some (.int .u32 ss) ∧ w1.cell? ⟨w.heap.size + 1, 2, none⟩ = some (.int .u64 lo) ∧ w1.cell? ⟨w.heap.size + 1, 3, none⟩ = some (.int .u64 hi) ∧ w1.cell? ⟨w.heap.size + 1, 4, none⟩ = some (.int .u8 d0) ∧ w1.cell? ⟨w.heap.size + 1, 5, none⟩ = some (.int .u8 d1) ∧ w1.cell? ⟨w.heap.size + 1, 6, none⟩ = some (.int .u8 d2) ∧ w1.cell? ⟨w.heap.size + 1, 7, none⟩ = some (.slice b os.length d) := (have r := RB.below hb1 RB.lt; ⟨r.cell (by omega), r.cell (by omega), r.cell (by omega), r.cell (by omega), r.cell (by omega), r.cell (by omega), r.cell (by omega), r.cell (by omega)⟩))
  go_ret
  exact ⟨rfl, hBW.trans (hb1.mono hBW.size)⟩
end Go.Proofs.YtgccjefbedpmpaaGreatDoor

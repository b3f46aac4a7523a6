import Derived.Test.YtgccjefbedpmpaaGreatDoorGRefIn
import Derived.Test.YtgccjefbedpmpaaGreatDoorGRSum
namespace Go.Proofs.YtgccjefbedpmpaaGreatDoor
open Go.RowKit
def op6 (v0 v1 v2 v3 v4 v5 : Value) : Nat → Value
  | 0 => v0
  | 1 => v1
  | 2 => v2
  | 3 => v3
  | 4 => v4
  | _ => v5
theorem RowIs.far {w : World} {g t n : Nat} {f : Nat → Value} (h : RowIs w g t n f) {o : Nat} (hne : o ≠ g) (k : Nat) (v : Value) : RowIs (w.setCell ⟨o, k, none⟩ v) g t n f := (heap_setCell_other _ _ _ _ fun e => hne e.symm).trans h
theorem below1' (W : World) (o : Obj) : Below W.heap.size W (W.alloc o) := (Below.refl _ _).alloc (Nat.le_refl _) o
theorem But.setRow {X : Nat → Prop} {a b : World} (h : But X a b) {g : Nat} (hg : a.heap.size ≤ g) (cs : Array Value) : But X a (b.setRow g cs) :=
  ⟨by rw [show (b.setRow g cs).heap.size = b.heap.size by simp]; exact h.size, h.os, h.tape, h.output, fun i hi hx => (setRow_other _ _ _ _ (by omega)).trans (h.block i hi hx)⟩
theorem next_r (s : ByteArray) (a : Nat) (ha : a ≤ s.size) : nextAt s a ≤ s.size := by unfold nextAt; split <;> omega
/-- An operation, as the reference reads it: its six numbers, where it ends, whether something is wrong. -/
structure OpR where
  kd : Int
  cl : Int
  ck : Int
  st : Int
  rf : Int
  ch : Int
  at_ : Nat
  bad : Bool
def opL (s : ByteArray) (a : Nat) (b : Bool) : OpR :=
  let f1 := fewL s (nextAt s a) (b || decide (s.size ≤ a))
  let f2 := fewL s f1.2.1 f1.2.2
  let f3 := fewL s f2.2.1 f2.2.2
  let r := numL s 8 0 f3.2.1 f3.2.2 0
  let c := fewL s r.2.1 r.2.2
  if byAt s a = 1 then ⟨byAt s a, f1.1, f2.1, f3.1, r.1, c.1 % 2147483648, c.2.1, c.2.2 || decide (c.1 = 2147483648)⟩
  else ⟨byAt s a, f1.1, f2.1, f3.1, r.1, 0, r.2.1, r.2.2⟩
set_option maxRecDepth 100000 in
set_option maxHeartbeats 1000000 in
theorem inop_any (xb : Nat) (s : ByteArray) (a : Nat) (b : Bool) (hs : s.size ≤ 140737488355328) (ha : a ≤ s.size) (w : World) (h : RowIs w xb 291 3 (inc s a b)) :
    Calls Tryz.prog 209 #[.pointer (some ⟨xb, 0, none⟩)] w fun e w' => e = .returned (.agg #[.int .i64 (opL s a b).kd, .int .u32 (opL s a b).cl, .int .u32 (opL s a b).ck, .int .u32 (opL s a b).st, .int .u64 (opL s a b).rf, .int .i32 (opL s a b).ch]) ∧ RowIs w' xb 291 3 (inc s (opL s a b).at_ (opL s a b).bad) ∧ But (fun g => g = xb) w w' := by
  have hxl := h.lt
  have hB0 : Below w.heap.size w (w.alloc (.cells #[.int .i64 0, .int .u32 0, .int .u32 0, .int .u32 0, .int .u64 0, .int .i32 0] 43)) := (Below.refl _ _).alloc (Nat.le_refl _) _
  have hX0 := h.below hB0 hxl
  have hO0 : RowIs (w.alloc (.cells #[.int .i64 0, .int .u32 0, .int .u32 0, .int .u32 0, .int .u64 0, .int .i32 0] 43)) w.heap.size 43 6 (op6 (.int .i64 0) (.int .u32 0) (.int .u32 0) (.int .u32 0) (.int .u64 0) (.int .i32 0)) := RowIs.new w _ 6 (op6 _ _ _ _ _ _)
  have hne : w.heap.size ≠ xb := by omega
  go_enter Tryz.func209, Tryz.ntmps209
  obtain ⟨q1, q2, q3⟩ := fewL_r s (nextAt s a) (b || decide (s.size ≤ a)) (next_r s a ha)
  unfold opL
  generalize hF1 : fewL s (nextAt s a) (b || decide (s.size ≤ a)) = F1 at *
  have HF1 : Hid (fewL s (nextAt s a) (b || decide (s.size ≤ a)) = F1) := hF1
  clear hF1
  obtain ⟨cl, a1, b1⟩ := F1
  obtain ⟨q4, q5, q6⟩ := fewL_r s a1 b1 q3
  dsimp only at *
  generalize hF2 : fewL s a1 b1 = F2 at *
  have HF2 : Hid (fewL s a1 b1 = F2) := hF2
  clear hF2
  obtain ⟨ck, a2, b2⟩ := F2
  obtain ⟨q7, q8, q9⟩ := fewL_r s a2 b2 q6
  dsimp only at *
  generalize hF3 : fewL s a2 b2 = F3 at *
  have HF3 : Hid (fewL s a2 b2 = F3) := hF3
  clear hF3
  obtain ⟨st, a3, b3⟩ := F3
  obtain ⟨q10, q11, q12⟩ := numL_r s 8 0 a3 b3 0 (by omega) (by decide) (by omega) q9
  dsimp only at *
  generalize hF4 : numL s 8 0 a3 b3 0 = F4 at *
  have HF4 : Hid (numL s 8 0 a3 b3 0 = F4) := hF4
  clear hF4
  obtain ⟨rf, a4, b4⟩ := F4
  obtain ⟨q13, q14, q15⟩ := fewL_r s a4 b4 q12
  dsimp only at *
  generalize hF5 : fewL s a4 b4 = F5 at *
  have HF5 : Hid (fewL s a4 b4 = F5) := hF5
  clear hF5
  obtain ⟨cc, a5, b5⟩ := F5
  dsimp only at *
  have hne1 : w.heap.size + 1 ≠ xb := by omega
  have hn2 : w.heap.size + 1 ≠ w.heap.size := by omega
  generalize hkd : byAt s a = kd at *
  have Hkd : Hid (byAt s a = kd) := hkd
  clear hkd
  have nx := next_r s a ha
  by_cases hk : kd = 1
  · subst hk
    by_cases hcc : cc = 2147483648
    · subst hcc
      cases b5
      all_goals (
        go_wp2_with (first
      | (go_at_call 207; have hx := hr5; clear hx; refine (infew_any xb s a4 b4 hs q12 _ (hr5.far hne1 4 _)).mono ?_; rw [HF5.out]; rintro e w6 ⟨rfl, hr6, hb6, hs6⟩; have ho7 := ho6.but hb6 hne1; have p5 : w6.cell? ⟨w.heap.size + 1, 5, none⟩ = some (.int .i32 0) := ho7.cell (by omega); have k5 := ho7.free 5; have hr7 := hr6.far hne1 5 (.int .i32 (0)); have d2 : (w6.setCell ⟨w.heap.size + 1, 5, none⟩ (.int .i32 (0))).cell? ⟨xb, 2, none⟩ = some (.bool _) := hr7.cell (show 2 < 3 by omega); have g2 := hr7.free 2; have ho8 := (ho7.set 5 (.int .i32 (0))).congr (f' := op6 (.int .i64 1) (.int .u32 cl) (.int .u32 ck) (.int .u32 st) (.int .u64 rf) (.int .i32 (0))) (fun j hj => by match j, hj with | 0, _ => rfl | 1, _ => rfl | 2, _ => rfl | 3, _ => rfl | 4, _ => rfl | 5, _ => rfl); have ho9 := ho8.far (fun e => hne1 e.symm) 2 (.bool true); have y0 : ((w6.setCell ⟨w.heap.size + 1, 5, none⟩ (.int .i32 (0))).setCell ⟨xb, 2, none⟩ (.bool true)).cell? ⟨w.heap.size + 1, 0, none⟩ = some (.int .i64 1) := ho9.cell (by omega); have y1 : ((w6.setCell ⟨w.heap.size + 1, 5, none⟩ (.int .i32 (0))).setCell ⟨xb, 2, none⟩ (.bool true)).cell? ⟨w.heap.size + 1, 1, none⟩ = some (.int .u32 cl) := ho9.cell (by omega); have y2 : ((w6.setCell ⟨w.heap.size + 1, 5, none⟩ (.int .i32 (0))).setCell ⟨xb, 2, none⟩ (.bool true)).cell? ⟨w.heap.size + 1, 2, none⟩ = some (.int .u32 ck) := ho9.cell (by omega); have y3 : ((w6.setCell ⟨w.heap.size + 1, 5, none⟩ (.int .i32 (0))).setCell ⟨xb, 2, none⟩ (.bool true)).cell? ⟨w.heap.size + 1, 3, none⟩ = some (.int .u32 st) := ho9.cell (by omega); have y4 : ((w6.setCell ⟨w.heap.size + 1, 5, none⟩ (.int .i32 (0))).setCell ⟨xb, 2, none⟩ (.bool true)).cell? ⟨w.heap.size + 1, 4, none⟩ = some (.int .u64 rf) := ho9.cell (by omega); have y5 : ((w6.setCell ⟨w.heap.size + 1, 5, none⟩ (.int .i32 (0))).setCell ⟨xb, 2, none⟩ (.bool true)).cell? ⟨w.heap.size + 1, 5, none⟩ = some (.int .i32 (0)) := ho9.cell (by omega); have hR7 := (((hR5.but hb6 hne).far hn2 5 (.int .i32 (0))).far (fun e => hne e.symm) 2 (.bool true)))
      | (go_at_call 206; refine (inbyte_any xb s a b hs ha _ hX0).mono ?_; rintro e w1 ⟨rfl, hr1, hb1, hs1⟩; rw [Hkd.out]; have hw1 : w1.heap.size = w.heap.size + 1 := hs1.trans (by simp); have hX1 := hr1.below (below1' w1 (.cells #[.int .i64 1, .int .u32 0, .int .u32 0, .int .u32 0, .int .u64 0, .int .i32 0] 43)) hr1.lt; have hO1 := RowIs.new w1 43 6 (op6 (.int .i64 1) (.int .u32 0) (.int .u32 0) (.int .u32 0) (.int .u64 0) (.int .i32 0)); rw [hw1] at hO1; have hR1 := (hO0.but hb1 hne).below (below1' w1 (.cells #[.int .i64 1, .int .u32 0, .int .u32 0, .int .u32 0, .int .u64 0, .int .i32 0] 43)) (hO0.but hb1 hne).lt)
      | (go_at_call 207; have hx := hr3; clear hx; refine (infew_any xb s a2 b2 hs q6 _ (hr3.far hne1 2 _)).mono ?_; rw [HF3.out]; rintro e w4 ⟨rfl, hr4, hb4, hs4⟩; have ho4 := ((ho3.set 2 (.int .u32 ck)).congr (f' := op6 (.int .i64 1) (.int .u32 cl) (.int .u32 ck) (.int .u32 0) (.int .u64 0) (.int .i32 0)) (fun j hj => by match j, hj with | 0, _ => rfl | 1, _ => rfl | 2, _ => rfl | 3, _ => rfl | 4, _ => rfl | 5, _ => rfl)).but hb4 hne1; have p3 : w4.cell? ⟨w.heap.size + 1, 3, none⟩ = some (.int .u32 0) := ho4.cell (by omega); have k3 := ho4.free 3; have hR4 := (hR3.but hb4 hne).far hn2 3 (.int .u32 st))
      | (go_at_call 207; have hx := hr2; clear hx; refine (infew_any xb s a1 b1 hs q3 _ (hr2.far hne1 1 _)).mono ?_; rw [HF2.out]; rintro e w3 ⟨rfl, hr3, hb3, hs3⟩; have ho3 := ((ho2.set 1 (.int .u32 cl)).congr (f' := op6 (.int .i64 1) (.int .u32 cl) (.int .u32 0) (.int .u32 0) (.int .u64 0) (.int .i32 0)) (fun j hj => by match j, hj with | 0, _ => rfl | 1, _ => rfl | 2, _ => rfl | 3, _ => rfl | 4, _ => rfl | 5, _ => rfl)).but hb3 hne1; have p2 : w3.cell? ⟨w.heap.size + 1, 2, none⟩ = some (.int .u32 0) := ho3.cell (by omega); have k2 := ho3.free 2; have hR3 := (hR2.but hb3 hne).far hn2 2 (.int .u32 ck))
      | (go_at_call 207; refine (infew_any xb s (nextAt s a) (b || decide (s.size ≤ a)) hs nx _ hX1).mono ?_; rw [HF1.out]; rintro e w2 ⟨rfl, hr2, hb2, hs2⟩; have ho2 := hO1.but hb2 hne1; have p1 : w2.cell? ⟨w.heap.size + 1, 1, none⟩ = some (.int .u32 0) := ho2.cell (by omega); have k1 := ho2.free 1; have hR2 := (hR1.but hb2 hne).far hn2 1 (.int .u32 cl))
      | (go_at_call 208; refine (innum_any xb s a3 b3 hs q9 _ (hr4.far hne1 3 _)).mono ?_; rw [HF4.out]; rintro e w5 ⟨rfl, hr5, hb5, hs5⟩; have ho5 := ((ho4.set 3 (.int .u32 st)).congr (f' := op6 (.int .i64 1) (.int .u32 cl) (.int .u32 ck) (.int .u32 st) (.int .u64 0) (.int .i32 0)) (fun j hj => by match j, hj with | 0, _ => rfl | 1, _ => rfl | 2, _ => rfl | 3, _ => rfl | 4, _ => rfl | 5, _ => rfl)).but hb5 hne1; have p4 : w5.cell? ⟨w.heap.size + 1, 4, none⟩ = some (.int .u64 0) := ho5.cell (by omega); have k4 := ho5.free 4; have hR5 := (hR4.but hb5 hne).far hn2 4 (.int .u64 rf); have ho6 := (ho5.set 4 (.int .u64 rf)).congr (f' := op6 (.int .i64 1) (.int .u32 cl) (.int .u32 ck) (.int .u32 st) (.int .u64 rf) (.int .i32 0)) (fun j hj => by match j, hj with | 0, _ => rfl | 1, _ => rfl | 2, _ => rfl | 3, _ => rfl | 4, _ => rfl | 5, _ => rfl); have z0 : (w5.setCell ⟨w.heap.size + 1, 4, none⟩ (.int .u64 rf)).cell? ⟨w.heap.size + 1, 0, none⟩ = some (.int .i64 1) := ho6.cell (by omega); have z1 : (w5.setCell ⟨w.heap.size + 1, 4, none⟩ (.int .u64 rf)).cell? ⟨w.heap.size + 1, 1, none⟩ = some (.int .u32 cl) := ho6.cell (by omega); have z2 : (w5.setCell ⟨w.heap.size + 1, 4, none⟩ (.int .u64 rf)).cell? ⟨w.heap.size + 1, 2, none⟩ = some (.int .u32 ck) := ho6.cell (by omega); have z3 : (w5.setCell ⟨w.heap.size + 1, 4, none⟩ (.int .u64 rf)).cell? ⟨w.heap.size + 1, 3, none⟩ = some (.int .u32 st) := ho6.cell (by omega); have z4 : (w5.setCell ⟨w.heap.size + 1, 4, none⟩ (.int .u64 rf)).cell? ⟨w.heap.size + 1, 4, none⟩ = some (.int .u64 rf) := ho6.cell (by omega); have z5 : (w5.setCell ⟨w.heap.size + 1, 4, none⟩ (.int .u64 rf)).cell? ⟨w.heap.size + 1, 5, none⟩ = some (.int .i32 0) := ho6.cell (by omega))
      | (refine wpList_store_row rfl 43 (.tmp 2) (.tmp 40) rfl w.heap.size _ rfl rfl _ _ hR7 infoAOp (by rw [rowOf_size]; rfl) (by simp [Value.oneCell']) ?_))
        have B1 := (But.below (X := fun g => g = xb) hB0).trans hb1
        have B2 := (B1.alloc (.cells #[.int .i64 1, .int .u32 0, .int .u32 0, .int .u32 0, .int .u64 0, .int .i32 0] 43)).trans hb2
        have B3 := (B2.setCell (p := ⟨w.heap.size + 1, 1, none⟩) (Or.inr (Nat.le_succ _)) (.int .u32 cl)).trans hb3
        have B4 := (B3.setCell (p := ⟨w.heap.size + 1, 2, none⟩) (Or.inr (Nat.le_succ _)) (.int .u32 ck)).trans hb4
        have B5 := (B4.setCell (p := ⟨w.heap.size + 1, 3, none⟩) (Or.inr (Nat.le_succ _)) (.int .u32 st)).trans hb5
        have B6 := (B5.setCell (p := ⟨w.heap.size + 1, 4, none⟩) (Or.inr (Nat.le_succ _)) (.int .u64 rf)).trans hb6
        have B7 := (B6.setCell (p := ⟨w.heap.size + 1, 5, none⟩) (Or.inr (Nat.le_succ _)) (.int .i32 (0))).setCell (p := ⟨xb, 2, none⟩) (Or.inl rfl) (.bool true)
        exact bodyPost_ret (v := .agg #[.int .i64 1, .int .u32 cl, .int .u32 ck, .int .u32 st, .int .u64 rf, .int .i32 (0)]) (results_cell_row Tryz.results209 _ _ w.heap.size 43 _ (0, 0) _ rfl (hR7.setRow (op6 (.int .i64 1) (.int .u32 cl) (.int .u32 ck) (.int .u32 st) (.int .u64 rf) (.int .i32 (0)))) Tryz.underlying43 rfl infoAOp) rfl ⟨rfl, ((hr7.set 2 (.bool true)).congr fun j hj => by match j, hj with | 0, _ => rfl | 1, _ => rfl | 2, _ => first | rfl | simp [inc]).setRowOther hne _, B7.setRow (Nat.le_refl _) _⟩)
    · have hbq : (cc == 2147483648) = false := by simp [hcc]
      cases b5
      · go_wp2_with (first
      | (go_at_call 207; have hx := hr5; clear hx; refine (infew_any xb s a4 b4 hs q12 _ (hr5.far hne1 4 _)).mono ?_; rw [HF5.out]; rintro e w6 ⟨rfl, hr6, hb6, hs6⟩; have ho7 := ho6.but hb6 hne1; have p5 : w6.cell? ⟨w.heap.size + 1, 5, none⟩ = some (.int .i32 0) := ho7.cell (by omega); have k5 := ho7.free 5; have hr7 := hr6.far hne1 5 (.int .i32 (cc % 2147483648)); have d2 : (w6.setCell ⟨w.heap.size + 1, 5, none⟩ (.int .i32 (cc % 2147483648))).cell? ⟨xb, 2, none⟩ = some (.bool _) := hr7.cell (show 2 < 3 by omega); have g2 := hr7.free 2; have ho8 := (ho7.set 5 (.int .i32 (cc % 2147483648))).congr (f' := op6 (.int .i64 1) (.int .u32 cl) (.int .u32 ck) (.int .u32 st) (.int .u64 rf) (.int .i32 (cc % 2147483648))) (fun j hj => by match j, hj with | 0, _ => rfl | 1, _ => rfl | 2, _ => rfl | 3, _ => rfl | 4, _ => rfl | 5, _ => rfl); have ho9 := ho8.far (fun e => hne1 e.symm) 2 (.bool false); have y0 : ((w6.setCell ⟨w.heap.size + 1, 5, none⟩ (.int .i32 (cc % 2147483648))).setCell ⟨xb, 2, none⟩ (.bool false)).cell? ⟨w.heap.size + 1, 0, none⟩ = some (.int .i64 1) := ho9.cell (by omega); have y1 : ((w6.setCell ⟨w.heap.size + 1, 5, none⟩ (.int .i32 (cc % 2147483648))).setCell ⟨xb, 2, none⟩ (.bool false)).cell? ⟨w.heap.size + 1, 1, none⟩ = some (.int .u32 cl) := ho9.cell (by omega); have y2 : ((w6.setCell ⟨w.heap.size + 1, 5, none⟩ (.int .i32 (cc % 2147483648))).setCell ⟨xb, 2, none⟩ (.bool false)).cell? ⟨w.heap.size + 1, 2, none⟩ = some (.int .u32 ck) := ho9.cell (by omega); have y3 : ((w6.setCell ⟨w.heap.size + 1, 5, none⟩ (.int .i32 (cc % 2147483648))).setCell ⟨xb, 2, none⟩ (.bool false)).cell? ⟨w.heap.size + 1, 3, none⟩ = some (.int .u32 st) := ho9.cell (by omega); have y4 : ((w6.setCell ⟨w.heap.size + 1, 5, none⟩ (.int .i32 (cc % 2147483648))).setCell ⟨xb, 2, none⟩ (.bool false)).cell? ⟨w.heap.size + 1, 4, none⟩ = some (.int .u64 rf) := ho9.cell (by omega); have y5 : ((w6.setCell ⟨w.heap.size + 1, 5, none⟩ (.int .i32 (cc % 2147483648))).setCell ⟨xb, 2, none⟩ (.bool false)).cell? ⟨w.heap.size + 1, 5, none⟩ = some (.int .i32 (cc % 2147483648)) := ho9.cell (by omega); have hR7 := (((hR5.but hb6 hne).far hn2 5 (.int .i32 (cc % 2147483648))).far (fun e => hne e.symm) 2 (.bool false)))
      | (go_at_call 206; refine (inbyte_any xb s a b hs ha _ hX0).mono ?_; rintro e w1 ⟨rfl, hr1, hb1, hs1⟩; rw [Hkd.out]; have hw1 : w1.heap.size = w.heap.size + 1 := hs1.trans (by simp); have hX1 := hr1.below (below1' w1 (.cells #[.int .i64 1, .int .u32 0, .int .u32 0, .int .u32 0, .int .u64 0, .int .i32 0] 43)) hr1.lt; have hO1 := RowIs.new w1 43 6 (op6 (.int .i64 1) (.int .u32 0) (.int .u32 0) (.int .u32 0) (.int .u64 0) (.int .i32 0)); rw [hw1] at hO1; have hR1 := (hO0.but hb1 hne).below (below1' w1 (.cells #[.int .i64 1, .int .u32 0, .int .u32 0, .int .u32 0, .int .u64 0, .int .i32 0] 43)) (hO0.but hb1 hne).lt)
      | (go_at_call 207; have hx := hr3; clear hx; refine (infew_any xb s a2 b2 hs q6 _ (hr3.far hne1 2 _)).mono ?_; rw [HF3.out]; rintro e w4 ⟨rfl, hr4, hb4, hs4⟩; have ho4 := ((ho3.set 2 (.int .u32 ck)).congr (f' := op6 (.int .i64 1) (.int .u32 cl) (.int .u32 ck) (.int .u32 0) (.int .u64 0) (.int .i32 0)) (fun j hj => by match j, hj with | 0, _ => rfl | 1, _ => rfl | 2, _ => rfl | 3, _ => rfl | 4, _ => rfl | 5, _ => rfl)).but hb4 hne1; have p3 : w4.cell? ⟨w.heap.size + 1, 3, none⟩ = some (.int .u32 0) := ho4.cell (by omega); have k3 := ho4.free 3; have hR4 := (hR3.but hb4 hne).far hn2 3 (.int .u32 st))
      | (go_at_call 207; have hx := hr2; clear hx; refine (infew_any xb s a1 b1 hs q3 _ (hr2.far hne1 1 _)).mono ?_; rw [HF2.out]; rintro e w3 ⟨rfl, hr3, hb3, hs3⟩; have ho3 := ((ho2.set 1 (.int .u32 cl)).congr (f' := op6 (.int .i64 1) (.int .u32 cl) (.int .u32 0) (.int .u32 0) (.int .u64 0) (.int .i32 0)) (fun j hj => by match j, hj with | 0, _ => rfl | 1, _ => rfl | 2, _ => rfl | 3, _ => rfl | 4, _ => rfl | 5, _ => rfl)).but hb3 hne1; have p2 : w3.cell? ⟨w.heap.size + 1, 2, none⟩ = some (.int .u32 0) := ho3.cell (by omega); have k2 := ho3.free 2; have hR3 := (hR2.but hb3 hne).far hn2 2 (.int .u32 ck))
      | (go_at_call 207; refine (infew_any xb s (nextAt s a) (b || decide (s.size ≤ a)) hs nx _ hX1).mono ?_; rw [HF1.out]; rintro e w2 ⟨rfl, hr2, hb2, hs2⟩; have ho2 := hO1.but hb2 hne1; have p1 : w2.cell? ⟨w.heap.size + 1, 1, none⟩ = some (.int .u32 0) := ho2.cell (by omega); have k1 := ho2.free 1; have hR2 := (hR1.but hb2 hne).far hn2 1 (.int .u32 cl))
      | (go_at_call 208; refine (innum_any xb s a3 b3 hs q9 _ (hr4.far hne1 3 _)).mono ?_; rw [HF4.out]; rintro e w5 ⟨rfl, hr5, hb5, hs5⟩; have ho5 := ((ho4.set 3 (.int .u32 st)).congr (f' := op6 (.int .i64 1) (.int .u32 cl) (.int .u32 ck) (.int .u32 st) (.int .u64 0) (.int .i32 0)) (fun j hj => by match j, hj with | 0, _ => rfl | 1, _ => rfl | 2, _ => rfl | 3, _ => rfl | 4, _ => rfl | 5, _ => rfl)).but hb5 hne1; have p4 : w5.cell? ⟨w.heap.size + 1, 4, none⟩ = some (.int .u64 0) := ho5.cell (by omega); have k4 := ho5.free 4; have hR5 := (hR4.but hb5 hne).far hn2 4 (.int .u64 rf); have ho6 := (ho5.set 4 (.int .u64 rf)).congr (f' := op6 (.int .i64 1) (.int .u32 cl) (.int .u32 ck) (.int .u32 st) (.int .u64 rf) (.int .i32 0)) (fun j hj => by match j, hj with | 0, _ => rfl | 1, _ => rfl | 2, _ => rfl | 3, _ => rfl | 4, _ => rfl | 5, _ => rfl); have z0 : (w5.setCell ⟨w.heap.size + 1, 4, none⟩ (.int .u64 rf)).cell? ⟨w.heap.size + 1, 0, none⟩ = some (.int .i64 1) := ho6.cell (by omega); have z1 : (w5.setCell ⟨w.heap.size + 1, 4, none⟩ (.int .u64 rf)).cell? ⟨w.heap.size + 1, 1, none⟩ = some (.int .u32 cl) := ho6.cell (by omega); have z2 : (w5.setCell ⟨w.heap.size + 1, 4, none⟩ (.int .u64 rf)).cell? ⟨w.heap.size + 1, 2, none⟩ = some (.int .u32 ck) := ho6.cell (by omega); have z3 : (w5.setCell ⟨w.heap.size + 1, 4, none⟩ (.int .u64 rf)).cell? ⟨w.heap.size + 1, 3, none⟩ = some (.int .u32 st) := ho6.cell (by omega); have z4 : (w5.setCell ⟨w.heap.size + 1, 4, none⟩ (.int .u64 rf)).cell? ⟨w.heap.size + 1, 4, none⟩ = some (.int .u64 rf) := ho6.cell (by omega); have z5 : (w5.setCell ⟨w.heap.size + 1, 4, none⟩ (.int .u64 rf)).cell? ⟨w.heap.size + 1, 5, none⟩ = some (.int .i32 0) := ho6.cell (by omega))
      | (refine wpList_store_row rfl 43 (.tmp 2) (.tmp 40) rfl w.heap.size _ rfl rfl _ _ hR7 infoAOp (by rw [rowOf_size]; rfl) (by simp [Value.oneCell']) ?_))
        have B1 := (But.below (X := fun g => g = xb) hB0).trans hb1
        have B2 := (B1.alloc (.cells #[.int .i64 1, .int .u32 0, .int .u32 0, .int .u32 0, .int .u64 0, .int .i32 0] 43)).trans hb2
        have B3 := (B2.setCell (p := ⟨w.heap.size + 1, 1, none⟩) (Or.inr (Nat.le_succ _)) (.int .u32 cl)).trans hb3
        have B4 := (B3.setCell (p := ⟨w.heap.size + 1, 2, none⟩) (Or.inr (Nat.le_succ _)) (.int .u32 ck)).trans hb4
        have B5 := (B4.setCell (p := ⟨w.heap.size + 1, 3, none⟩) (Or.inr (Nat.le_succ _)) (.int .u32 st)).trans hb5
        have B6 := (B5.setCell (p := ⟨w.heap.size + 1, 4, none⟩) (Or.inr (Nat.le_succ _)) (.int .u64 rf)).trans hb6
        have B7 := (B6.setCell (p := ⟨w.heap.size + 1, 5, none⟩) (Or.inr (Nat.le_succ _)) (.int .i32 (cc % 2147483648))).setCell (p := ⟨xb, 2, none⟩) (Or.inl rfl) (.bool false)
        exact bodyPost_ret (v := .agg #[.int .i64 1, .int .u32 cl, .int .u32 ck, .int .u32 st, .int .u64 rf, .int .i32 (cc % 2147483648)]) (results_cell_row Tryz.results209 _ _ w.heap.size 43 _ (0, 0) _ rfl (hR7.setRow (op6 (.int .i64 1) (.int .u32 cl) (.int .u32 ck) (.int .u32 st) (.int .u64 rf) (.int .i32 (cc % 2147483648)))) Tryz.underlying43 rfl infoAOp) rfl ⟨rfl, ((hr7.set 2 (.bool false)).congr fun j hj => by match j, hj with | 0, _ => rfl | 1, _ => rfl | 2, _ => simp [inc]).setRowOther hne _, B7.setRow (Nat.le_refl _) _⟩
      · go_wp2_with (first
      | (go_at_call 207; have hx := hr5; clear hx; refine (infew_any xb s a4 b4 hs q12 _ (hr5.far hne1 4 _)).mono ?_; rw [HF5.out]; rintro e w6 ⟨rfl, hr6, hb6, hs6⟩; have ho7 := ho6.but hb6 hne1; have p5 : w6.cell? ⟨w.heap.size + 1, 5, none⟩ = some (.int .i32 0) := ho7.cell (by omega); have k5 := ho7.free 5; have hr7 := hr6.far hne1 5 (.int .i32 (cc % 2147483648)); have d2 : (w6.setCell ⟨w.heap.size + 1, 5, none⟩ (.int .i32 (cc % 2147483648))).cell? ⟨xb, 2, none⟩ = some (.bool _) := hr7.cell (show 2 < 3 by omega); have g2 := hr7.free 2; have ho8 := (ho7.set 5 (.int .i32 (cc % 2147483648))).congr (f' := op6 (.int .i64 1) (.int .u32 cl) (.int .u32 ck) (.int .u32 st) (.int .u64 rf) (.int .i32 (cc % 2147483648))) (fun j hj => by match j, hj with | 0, _ => rfl | 1, _ => rfl | 2, _ => rfl | 3, _ => rfl | 4, _ => rfl | 5, _ => rfl); have ho9 := ho8.far (fun e => hne1 e.symm) 2 (.bool true); have y0 : ((w6.setCell ⟨w.heap.size + 1, 5, none⟩ (.int .i32 (cc % 2147483648))).setCell ⟨xb, 2, none⟩ (.bool true)).cell? ⟨w.heap.size + 1, 0, none⟩ = some (.int .i64 1) := ho9.cell (by omega); have y1 : ((w6.setCell ⟨w.heap.size + 1, 5, none⟩ (.int .i32 (cc % 2147483648))).setCell ⟨xb, 2, none⟩ (.bool true)).cell? ⟨w.heap.size + 1, 1, none⟩ = some (.int .u32 cl) := ho9.cell (by omega); have y2 : ((w6.setCell ⟨w.heap.size + 1, 5, none⟩ (.int .i32 (cc % 2147483648))).setCell ⟨xb, 2, none⟩ (.bool true)).cell? ⟨w.heap.size + 1, 2, none⟩ = some (.int .u32 ck) := ho9.cell (by omega); have y3 : ((w6.setCell ⟨w.heap.size + 1, 5, none⟩ (.int .i32 (cc % 2147483648))).setCell ⟨xb, 2, none⟩ (.bool true)).cell? ⟨w.heap.size + 1, 3, none⟩ = some (.int .u32 st) := ho9.cell (by omega); have y4 : ((w6.setCell ⟨w.heap.size + 1, 5, none⟩ (.int .i32 (cc % 2147483648))).setCell ⟨xb, 2, none⟩ (.bool true)).cell? ⟨w.heap.size + 1, 4, none⟩ = some (.int .u64 rf) := ho9.cell (by omega); have y5 : ((w6.setCell ⟨w.heap.size + 1, 5, none⟩ (.int .i32 (cc % 2147483648))).setCell ⟨xb, 2, none⟩ (.bool true)).cell? ⟨w.heap.size + 1, 5, none⟩ = some (.int .i32 (cc % 2147483648)) := ho9.cell (by omega); have hR7 := (((hR5.but hb6 hne).far hn2 5 (.int .i32 (cc % 2147483648))).far (fun e => hne e.symm) 2 (.bool true)))
      | (go_at_call 206; refine (inbyte_any xb s a b hs ha _ hX0).mono ?_; rintro e w1 ⟨rfl, hr1, hb1, hs1⟩; rw [Hkd.out]; have hw1 : w1.heap.size = w.heap.size + 1 := hs1.trans (by simp); have hX1 := hr1.below (below1' w1 (.cells #[.int .i64 1, .int .u32 0, .int .u32 0, .int .u32 0, .int .u64 0, .int .i32 0] 43)) hr1.lt; have hO1 := RowIs.new w1 43 6 (op6 (.int .i64 1) (.int .u32 0) (.int .u32 0) (.int .u32 0) (.int .u64 0) (.int .i32 0)); rw [hw1] at hO1; have hR1 := (hO0.but hb1 hne).below (below1' w1 (.cells #[.int .i64 1, .int .u32 0, .int .u32 0, .int .u32 0, .int .u64 0, .int .i32 0] 43)) (hO0.but hb1 hne).lt)
      | (go_at_call 207; have hx := hr3; clear hx; refine (infew_any xb s a2 b2 hs q6 _ (hr3.far hne1 2 _)).mono ?_; rw [HF3.out]; rintro e w4 ⟨rfl, hr4, hb4, hs4⟩; have ho4 := ((ho3.set 2 (.int .u32 ck)).congr (f' := op6 (.int .i64 1) (.int .u32 cl) (.int .u32 ck) (.int .u32 0) (.int .u64 0) (.int .i32 0)) (fun j hj => by match j, hj with | 0, _ => rfl | 1, _ => rfl | 2, _ => rfl | 3, _ => rfl | 4, _ => rfl | 5, _ => rfl)).but hb4 hne1; have p3 : w4.cell? ⟨w.heap.size + 1, 3, none⟩ = some (.int .u32 0) := ho4.cell (by omega); have k3 := ho4.free 3; have hR4 := (hR3.but hb4 hne).far hn2 3 (.int .u32 st))
      | (go_at_call 207; have hx := hr2; clear hx; refine (infew_any xb s a1 b1 hs q3 _ (hr2.far hne1 1 _)).mono ?_; rw [HF2.out]; rintro e w3 ⟨rfl, hr3, hb3, hs3⟩; have ho3 := ((ho2.set 1 (.int .u32 cl)).congr (f' := op6 (.int .i64 1) (.int .u32 cl) (.int .u32 0) (.int .u32 0) (.int .u64 0) (.int .i32 0)) (fun j hj => by match j, hj with | 0, _ => rfl | 1, _ => rfl | 2, _ => rfl | 3, _ => rfl | 4, _ => rfl | 5, _ => rfl)).but hb3 hne1; have p2 : w3.cell? ⟨w.heap.size + 1, 2, none⟩ = some (.int .u32 0) := ho3.cell (by omega); have k2 := ho3.free 2; have hR3 := (hR2.but hb3 hne).far hn2 2 (.int .u32 ck))
      | (go_at_call 207; refine (infew_any xb s (nextAt s a) (b || decide (s.size ≤ a)) hs nx _ hX1).mono ?_; rw [HF1.out]; rintro e w2 ⟨rfl, hr2, hb2, hs2⟩; have ho2 := hO1.but hb2 hne1; have p1 : w2.cell? ⟨w.heap.size + 1, 1, none⟩ = some (.int .u32 0) := ho2.cell (by omega); have k1 := ho2.free 1; have hR2 := (hR1.but hb2 hne).far hn2 1 (.int .u32 cl))
      | (go_at_call 208; refine (innum_any xb s a3 b3 hs q9 _ (hr4.far hne1 3 _)).mono ?_; rw [HF4.out]; rintro e w5 ⟨rfl, hr5, hb5, hs5⟩; have ho5 := ((ho4.set 3 (.int .u32 st)).congr (f' := op6 (.int .i64 1) (.int .u32 cl) (.int .u32 ck) (.int .u32 st) (.int .u64 0) (.int .i32 0)) (fun j hj => by match j, hj with | 0, _ => rfl | 1, _ => rfl | 2, _ => rfl | 3, _ => rfl | 4, _ => rfl | 5, _ => rfl)).but hb5 hne1; have p4 : w5.cell? ⟨w.heap.size + 1, 4, none⟩ = some (.int .u64 0) := ho5.cell (by omega); have k4 := ho5.free 4; have hR5 := (hR4.but hb5 hne).far hn2 4 (.int .u64 rf); have ho6 := (ho5.set 4 (.int .u64 rf)).congr (f' := op6 (.int .i64 1) (.int .u32 cl) (.int .u32 ck) (.int .u32 st) (.int .u64 rf) (.int .i32 0)) (fun j hj => by match j, hj with | 0, _ => rfl | 1, _ => rfl | 2, _ => rfl | 3, _ => rfl | 4, _ => rfl | 5, _ => rfl); have z0 : (w5.setCell ⟨w.heap.size + 1, 4, none⟩ (.int .u64 rf)).cell? ⟨w.heap.size + 1, 0, none⟩ = some (.int .i64 1) := ho6.cell (by omega); have z1 : (w5.setCell ⟨w.heap.size + 1, 4, none⟩ (.int .u64 rf)).cell? ⟨w.heap.size + 1, 1, none⟩ = some (.int .u32 cl) := ho6.cell (by omega); have z2 : (w5.setCell ⟨w.heap.size + 1, 4, none⟩ (.int .u64 rf)).cell? ⟨w.heap.size + 1, 2, none⟩ = some (.int .u32 ck) := ho6.cell (by omega); have z3 : (w5.setCell ⟨w.heap.size + 1, 4, none⟩ (.int .u64 rf)).cell? ⟨w.heap.size + 1, 3, none⟩ = some (.int .u32 st) := ho6.cell (by omega); have z4 : (w5.setCell ⟨w.heap.size + 1, 4, none⟩ (.int .u64 rf)).cell? ⟨w.heap.size + 1, 4, none⟩ = some (.int .u64 rf) := ho6.cell (by omega); have z5 : (w5.setCell ⟨w.heap.size + 1, 4, none⟩ (.int .u64 rf)).cell? ⟨w.heap.size + 1, 5, none⟩ = some (.int .i32 0) := ho6.cell (by omega))
      | (refine wpList_store_row rfl 43 (.tmp 2) (.tmp 40) rfl w.heap.size _ rfl rfl _ _ hR7 infoAOp (by rw [rowOf_size]; rfl) (by simp [Value.oneCell']) ?_))
        have B1 := (But.below (X := fun g => g = xb) hB0).trans hb1
        have B2 := (B1.alloc (.cells #[.int .i64 1, .int .u32 0, .int .u32 0, .int .u32 0, .int .u64 0, .int .i32 0] 43)).trans hb2
        have B3 := (B2.setCell (p := ⟨w.heap.size + 1, 1, none⟩) (Or.inr (Nat.le_succ _)) (.int .u32 cl)).trans hb3
        have B4 := (B3.setCell (p := ⟨w.heap.size + 1, 2, none⟩) (Or.inr (Nat.le_succ _)) (.int .u32 ck)).trans hb4
        have B5 := (B4.setCell (p := ⟨w.heap.size + 1, 3, none⟩) (Or.inr (Nat.le_succ _)) (.int .u32 st)).trans hb5
        have B6 := (B5.setCell (p := ⟨w.heap.size + 1, 4, none⟩) (Or.inr (Nat.le_succ _)) (.int .u64 rf)).trans hb6
        have B7 := (B6.setCell (p := ⟨w.heap.size + 1, 5, none⟩) (Or.inr (Nat.le_succ _)) (.int .i32 (cc % 2147483648))).setCell (p := ⟨xb, 2, none⟩) (Or.inl rfl) (.bool true)
        exact bodyPost_ret (v := .agg #[.int .i64 1, .int .u32 cl, .int .u32 ck, .int .u32 st, .int .u64 rf, .int .i32 (cc % 2147483648)]) (results_cell_row Tryz.results209 _ _ w.heap.size 43 _ (0, 0) _ rfl (hR7.setRow (op6 (.int .i64 1) (.int .u32 cl) (.int .u32 ck) (.int .u32 st) (.int .u64 rf) (.int .i32 (cc % 2147483648)))) Tryz.underlying43 rfl infoAOp) rfl ⟨rfl, ((hr7.set 2 (.bool true)).congr fun j hj => by match j, hj with | 0, _ => rfl | 1, _ => rfl | 2, _ => simp [inc]).setRowOther hne _, B7.setRow (Nat.le_refl _) _⟩
  · go_wp2_with (first
      | (go_at_call 206; refine (inbyte_any xb s a b hs ha _ hX0).mono ?_; rintro e w1 ⟨rfl, hr1, hb1, hs1⟩; rw [Hkd.out]; have hw1 : w1.heap.size = w.heap.size + 1 := hs1.trans (by simp); have hX1 := hr1.below (below1' w1 (.cells #[.int .i64 kd, .int .u32 0, .int .u32 0, .int .u32 0, .int .u64 0, .int .i32 0] 43)) hr1.lt; have hO1 := RowIs.new w1 43 6 (op6 (.int .i64 kd) (.int .u32 0) (.int .u32 0) (.int .u32 0) (.int .u64 0) (.int .i32 0)); rw [hw1] at hO1; have hR1 := (hO0.but hb1 hne).below (below1' w1 (.cells #[.int .i64 kd, .int .u32 0, .int .u32 0, .int .u32 0, .int .u64 0, .int .i32 0] 43)) (hO0.but hb1 hne).lt)
      | (go_at_call 207; have hx := hr3; clear hx; refine (infew_any xb s a2 b2 hs q6 _ (hr3.far hne1 2 _)).mono ?_; rw [HF3.out]; rintro e w4 ⟨rfl, hr4, hb4, hs4⟩; have ho4 := ((ho3.set 2 (.int .u32 ck)).congr (f' := op6 (.int .i64 kd) (.int .u32 cl) (.int .u32 ck) (.int .u32 0) (.int .u64 0) (.int .i32 0)) (fun j hj => by match j, hj with | 0, _ => rfl | 1, _ => rfl | 2, _ => rfl | 3, _ => rfl | 4, _ => rfl | 5, _ => rfl)).but hb4 hne1; have p3 : w4.cell? ⟨w.heap.size + 1, 3, none⟩ = some (.int .u32 0) := ho4.cell (by omega); have k3 := ho4.free 3; have hR4 := (hR3.but hb4 hne).far hn2 3 (.int .u32 st))
      | (go_at_call 207; have hx := hr2; clear hx; refine (infew_any xb s a1 b1 hs q3 _ (hr2.far hne1 1 _)).mono ?_; rw [HF2.out]; rintro e w3 ⟨rfl, hr3, hb3, hs3⟩; have ho3 := ((ho2.set 1 (.int .u32 cl)).congr (f' := op6 (.int .i64 kd) (.int .u32 cl) (.int .u32 0) (.int .u32 0) (.int .u64 0) (.int .i32 0)) (fun j hj => by match j, hj with | 0, _ => rfl | 1, _ => rfl | 2, _ => rfl | 3, _ => rfl | 4, _ => rfl | 5, _ => rfl)).but hb3 hne1; have p2 : w3.cell? ⟨w.heap.size + 1, 2, none⟩ = some (.int .u32 0) := ho3.cell (by omega); have k2 := ho3.free 2; have hR3 := (hR2.but hb3 hne).far hn2 2 (.int .u32 ck))
      | (go_at_call 207; refine (infew_any xb s (nextAt s a) (b || decide (s.size ≤ a)) hs nx _ hX1).mono ?_; rw [HF1.out]; rintro e w2 ⟨rfl, hr2, hb2, hs2⟩; have ho2 := hO1.but hb2 hne1; have p1 : w2.cell? ⟨w.heap.size + 1, 1, none⟩ = some (.int .u32 0) := ho2.cell (by omega); have k1 := ho2.free 1; have hR2 := (hR1.but hb2 hne).far hn2 1 (.int .u32 cl))
      | (go_at_call 208; refine (innum_any xb s a3 b3 hs q9 _ (hr4.far hne1 3 _)).mono ?_; rw [HF4.out]; rintro e w5 ⟨rfl, hr5, hb5, hs5⟩; have ho5 := ((ho4.set 3 (.int .u32 st)).congr (f' := op6 (.int .i64 kd) (.int .u32 cl) (.int .u32 ck) (.int .u32 st) (.int .u64 0) (.int .i32 0)) (fun j hj => by match j, hj with | 0, _ => rfl | 1, _ => rfl | 2, _ => rfl | 3, _ => rfl | 4, _ => rfl | 5, _ => rfl)).but hb5 hne1; have p4 : w5.cell? ⟨w.heap.size + 1, 4, none⟩ = some (.int .u64 0) := ho5.cell (by omega); have k4 := ho5.free 4; have hR5 := (hR4.but hb5 hne).far hn2 4 (.int .u64 rf); have ho6 := (ho5.set 4 (.int .u64 rf)).congr (f' := op6 (.int .i64 kd) (.int .u32 cl) (.int .u32 ck) (.int .u32 st) (.int .u64 rf) (.int .i32 0)) (fun j hj => by match j, hj with | 0, _ => rfl | 1, _ => rfl | 2, _ => rfl | 3, _ => rfl | 4, _ => rfl | 5, _ => rfl); have z0 : (w5.setCell ⟨w.heap.size + 1, 4, none⟩ (.int .u64 rf)).cell? ⟨w.heap.size + 1, 0, none⟩ = some (.int .i64 kd) := ho6.cell (by omega); have z1 : (w5.setCell ⟨w.heap.size + 1, 4, none⟩ (.int .u64 rf)).cell? ⟨w.heap.size + 1, 1, none⟩ = some (.int .u32 cl) := ho6.cell (by omega); have z2 : (w5.setCell ⟨w.heap.size + 1, 4, none⟩ (.int .u64 rf)).cell? ⟨w.heap.size + 1, 2, none⟩ = some (.int .u32 ck) := ho6.cell (by omega); have z3 : (w5.setCell ⟨w.heap.size + 1, 4, none⟩ (.int .u64 rf)).cell? ⟨w.heap.size + 1, 3, none⟩ = some (.int .u32 st) := ho6.cell (by omega); have z4 : (w5.setCell ⟨w.heap.size + 1, 4, none⟩ (.int .u64 rf)).cell? ⟨w.heap.size + 1, 4, none⟩ = some (.int .u64 rf) := ho6.cell (by omega); have z5 : (w5.setCell ⟨w.heap.size + 1, 4, none⟩ (.int .u64 rf)).cell? ⟨w.heap.size + 1, 5, none⟩ = some (.int .i32 0) := ho6.cell (by omega))
      | (refine wpList_store_row rfl 43 (.tmp 2) (.tmp 40) rfl w.heap.size _ rfl rfl _ _ hR5 infoAOp (by rw [rowOf_size]; rfl) (by simp [Value.oneCell']) ?_))
    have B1 := (But.below (X := fun g => g = xb) hB0).trans hb1
    have B2 := (B1.alloc (.cells #[.int .i64 kd, .int .u32 0, .int .u32 0, .int .u32 0, .int .u64 0, .int .i32 0] 43)).trans hb2
    have B3 := (B2.setCell (p := ⟨w.heap.size + 1, 1, none⟩) (Or.inr (Nat.le_succ _)) (.int .u32 cl)).trans hb3
    have B4 := (B3.setCell (p := ⟨w.heap.size + 1, 2, none⟩) (Or.inr (Nat.le_succ _)) (.int .u32 ck)).trans hb4
    have B5 := (B4.setCell (p := ⟨w.heap.size + 1, 3, none⟩) (Or.inr (Nat.le_succ _)) (.int .u32 st)).trans hb5
    have B6 := B5.setCell (p := ⟨w.heap.size + 1, 4, none⟩) (Or.inr (Nat.le_succ _)) (.int .u64 rf)
    exact bodyPost_ret (v := .agg #[.int .i64 kd, .int .u32 cl, .int .u32 ck, .int .u32 st, .int .u64 rf, .int .i32 0]) (results_cell_row Tryz.results209 _ _ w.heap.size 43 _ (0, 0) _ rfl (hR5.setRow (op6 (.int .i64 kd) (.int .u32 cl) (.int .u32 ck) (.int .u32 st) (.int .u64 rf) (.int .i32 0))) Tryz.underlying43 rfl infoAOp) rfl ⟨rfl, (hr5.far hne1 4 _).setRowOther hne _, B6.setRow (Nat.le_refl _) _⟩
end Go.Proofs.YtgccjefbedpmpaaGreatDoor
namespace Go.Proofs.YtgccjefbedpmpaaGreatDoor
open Go.RowKit
/-- The bytes of s from a on begin with l. -/
def Lies (s : ByteArray) (a : Nat) (l : List Int) : Prop := a + l.length ≤ s.size ∧ ∀ j (h : j < l.length), byAt s (a + j) = l[j]
theorem Lies.cons {s : ByteArray} {a : Nat} {x : Int} {l : List Int} (h : Lies s a (x :: l)) : a < s.size ∧ byAt s a = x ∧ Lies s (a + 1) l := by
  obtain ⟨h1, h2⟩ := h
  rw [List.length_cons] at h1
  refine ⟨by omega, h2 0 (by simp), by omega, fun j hj => ?_⟩
  have := h2 (j + 1) (by simpa using hj)
  rw [show a + 1 + j = a + (j + 1) by omega, this]
  rfl
theorem Lies.app {s : ByteArray} {a : Nat} {l m : List Int} (h : Lies s a (l ++ m)) : Lies s a l ∧ Lies s (a + l.length) m := by
  obtain ⟨h1, h2⟩ := h
  rw [List.length_append] at h1
  refine ⟨⟨by omega, fun j hj => ?_⟩, by omega, fun j hj => ?_⟩
  · rw [h2 j (by rw [List.length_append]; omega), List.getElem_append_left hj]
  · rw [show a + l.length + j = a + (l.length + j) by omega, h2 (l.length + j) (by rw [List.length_append]; omega), List.getElem_append_right (by omega)]
    congr 1
    omega
theorem numL_lies (s : ByteArray) : ∀ (k i a : Nat) (b : Bool) (n : Int) (v : Nat), v < 128 ^ (k + 1) → (0 < i → 0 < v) → Lies s a (vn v) → numL s (k + 1) i a b n = (n + v * 128 ^ i, a + (vn v).length, b) := by
  intro k
  induction k with
  | zero =>
    intro i a b n v h1 h2 hl
    have hv : v < 128 := by simpa using h1
    rw [vn_lt hv] at hl ⊢
    obtain ⟨c1, c2, c3⟩ := hl.cons
    rw [numL, c2, if_pos (by omega), nextAt, if_pos c1, decide_eq_false (by omega), show (v : Int) % 128 = v by omega]
    have : (decide ((v : Int) = 0) && decide (0 < i)) = false := by
      by_cases hi : 0 < i
      · rw [decide_eq_false (by have := h2 hi; omega)]; rfl
      · rw [decide_eq_false hi, Bool.and_false]
    rw [this]
    simp
  | succ k ih =>
    intro i a b n v h1 h2 hl
    by_cases hv : v < 128
    · rw [vn_lt hv] at hl ⊢
      obtain ⟨c1, c2, c3⟩ := hl.cons
      rw [numL, c2, if_pos (by omega), nextAt, if_pos c1, decide_eq_false (by omega), show (v : Int) % 128 = v by omega]
      have : (decide ((v : Int) = 0) && decide (0 < i)) = false := by
        by_cases hi : 0 < i
        · rw [decide_eq_false (by have := h2 hi; omega)]; rfl
        · rw [decide_eq_false hi, Bool.and_false]
      rw [this]
      simp
    · rw [vn_ge hv] at hl ⊢
      obtain ⟨c1, c2, c3⟩ := hl.cons
      have e : n + (v : Int) * 128 ^ i = n + (128 + (v : Int) % 128) % 128 * 128 ^ i + ((v / 128 : Nat) : Int) * 128 ^ (i + 1) := by
        rw [Int.pow_succ, Int.mul_comm (128 ^ i) 128, ← Int.mul_assoc, Int.add_assoc, ← Int.add_mul]
        congr 2
        omega
      rw [numL, c2, if_neg (by omega), nextAt, if_pos c1, decide_eq_false (by omega), Bool.or_false, e, ih (i + 1) _ _ _ (v / 128) (by rw [Nat.pow_succ] at h1; omega) (fun _ => by omega) c3, List.length_cons]
      rw [show a + 1 + (vn (v / 128)).length = a + ((vn (v / 128)).length + 1) by omega]
theorem num_lies {s : ByteArray} {a : Nat} {m : Int} (h0 : 0 ≤ m) (h1 : m < 72057594037927936) (hl : Lies s a (vn m.toNat)) (b : Bool) : numL s 8 0 a b 0 = (m, a + (vn m.toNat).length, b) := by
  rw [numL_lies s 7 0 a b 0 m.toNat (by omega) (fun h => by omega) hl]
  simp [Int.toNat_of_nonneg h0]
theorem few_lies {s : ByteArray} {a : Nat} {m : Int} (h0 : 0 ≤ m) (h1 : m ≤ 2147483647) (hl : Lies s a (vn m.toNat)) (b : Bool) : fewL s a b = (m, a + (vn m.toNat).length, b) := by
  unfold fewL
  rw [num_lies h0 (by omega) hl]
  dsimp only
  rw [decide_eq_false (by omega), Bool.or_false, show m % 4294967296 = m by omega]
theorem op_lies {s : ByteArray} {a : Nat} {o : Opn} (hw : OpW o) (hl : Lies s a (opB o)) (b : Bool) : opL s a b = ⟨o.kd, o.cl, o.ck, o.st, o.rf, o.ch, a + (opB o).length, b⟩ := by
  obtain ⟨k, cl, ck, st, rf, ch⟩ := o
  obtain ⟨hk, ⟨a1, b1⟩, ⟨a2, b2⟩, ⟨a3, b3⟩, ⟨a4, b4⟩, ⟨a5, b5, c5⟩⟩ := hw
  unfold opB at hl ⊢
  dsimp only at *
  obtain ⟨l0, e0, hl⟩ := hl.cons
  obtain ⟨l1, hl⟩ := hl.app
  obtain ⟨l2, hl⟩ := hl.app
  obtain ⟨l3, hl⟩ := hl.app
  obtain ⟨l4, hl⟩ := hl.app
  unfold opL
  dsimp only
  rw [nextAt, if_pos l0, decide_eq_false (by omega), Bool.or_false, few_lies a1 (by omega) l1]
  dsimp only
  rw [few_lies a2 (by omega) l2]
  dsimp only
  rw [few_lies a3 (by omega) l3]
  dsimp only
  rw [num_lies a4 (by omega) l4]
  dsimp only
  rw [e0]
  by_cases e : k = 1
  · rw [if_pos e] at hl
    rw [if_pos e, if_pos e, few_lies a5 (by omega) hl]
    dsimp only
    rw [decide_eq_false (by omega), Bool.or_false, show ch % 2147483648 = ch by omega]
    simp only [List.length_cons, List.length_append]
    congr 1
    omega
  · rw [if_neg e, if_neg e, c5 e]
    simp only [List.length_cons, List.length_append, List.length_nil]
    congr 1
    omega
def OpR.op (o : OpR) : Opn := ⟨o.kd, o.cl, o.ck, o.st, o.rf, o.ch⟩
/-- Operations, as the reference reads them: up to n, as long as nothing is wrong. -/
def opsL (s : ByteArray) : Nat → Nat → Bool → List Opn × Nat × Bool
  | 0, a, b => ([], a, b)
  | n + 1, a, b => if b then ([], a, b) else
    let o := opL s a b
    let r := opsL s n o.at_ o.bad
    (o.op :: r.1, r.2.1, r.2.2)
theorem ops_lies {s : ByteArray} : ∀ (os : List Opn) (a : Nat), (∀ o ∈ os, OpW o) → Lies s a (osB os) → opsL s os.length a false = (os, a + (osB os).length, false) := by
  intro os
  induction os with
  | nil => intro a _ _; rfl
  | cons o os ih =>
    intro a h hl
    unfold osB at hl ⊢
    obtain ⟨l1, l2⟩ := hl.app
    rw [List.length_cons, opsL, op_lies (h o (List.mem_cons_self ..)) l1]
    dsimp only
    rw [if_neg (by decide), ih _ (fun x hx => h x (List.mem_cons_of_mem _ hx)) l2]
    simp only [List.length_append]
    rw [show a + (opB o).length + (osB os).length = a + ((opB o).length + (osB os).length) by omega]
    rfl
/-- An operation's key. -/
def Opn.key (o : Opn) : Int := o.cl * 1048576 + o.ck
def Opn.ok (o : Opn) : Bool := okOp o.kd o.cl o.ck o.st o.rf o.ch
/-- Are operations right, and do their keys rise, and lie in the range? -/
def opsOk (k lo hi : Int) : Int → List Opn → Bool
  | _, [] => true
  | p, o :: os => (o.ok && (decide (k = 5) || (decide (lo ≤ o.key) && decide (o.key < hi)))) && (decide (p < o.key) && opsOk k lo hi o.key os)
/-- How many operations may there be? -/
def nOk (k : Int) (n : Nat) : Bool :=
  if k = 1 ∨ k = 2 then decide (n = 0) else if k = 3 then decide (n = 1) else if k = 4 then decide (n ≤ 4) else if k = 5 then decide (1 ≤ n) && decide (n ≤ 6) else false
/-- Is a frame right? -/
def okFrm (f : Frm) : Bool :=
  nOk f.kd f.ops.length && (decide (f.kd = 5 → f.lo = 0 ∧ f.hi = 0) && (decide (1 ≤ f.ss ∧ f.ss ≤ 1073741823) && (decide (f.kd ≠ 1 → f.d0 = 0 ∧ f.d1 = 0 ∧ f.d2 = 0) && (decide (f.kd ≠ 5 → f.lo < f.hi ∧ f.hi ≤ 1099511627776) && opsOk f.kd f.lo f.hi (-1) f.ops))))
theorem okOp_w {o : Opn} (h : o.ok = true) (h0 : 0 ≤ o.rf) : OpW o := by
  obtain ⟨k, cl, ck, st, rf, ch⟩ := o
  unfold Opn.ok okOp at h
  dsimp only at h h0
  simp only [Bool.and_eq_true, decide_eq_true_eq] at h
  obtain ⟨⟨⟨⟨⟨⟨⟨h1, h2⟩, h3⟩, h4⟩, h5⟩, h6⟩, _⟩, h8⟩ := h
  have hrf : okKey rf = true ∨ rf = 0 → rf ≤ 1099511627775 := fun e => by
    rcases e with e | e
    · unfold okKey at e
      simp only [Bool.and_eq_true, decide_eq_true_eq] at e
      omega
    · omega
  split at h8
  · rename_i e
    subst e
    simp only [Bool.and_eq_true, Bool.or_eq_true, decide_eq_true_eq] at h8
    unfold okChar at h8
    simp only [Bool.and_eq_true, decide_eq_true_eq] at h8
    exact ⟨by dsimp only; omega, by dsimp only; omega, by dsimp only; omega, by dsimp only; omega, ⟨h0, hrf h8.2⟩, ⟨by dsimp only; omega, h8.1.1.2, fun e => absurd rfl e⟩⟩
  · simp only [Bool.and_eq_true, decide_eq_true_eq] at h8
    exact ⟨by dsimp only; omega, by dsimp only; omega, by dsimp only; omega, by dsimp only; omega, ⟨h0, hrf (Or.inl h8.1.2)⟩, ⟨by dsimp only; omega, by dsimp only; omega, fun _ => h8.2⟩⟩
theorem opsOk_w {k lo hi : Int} : ∀ (os : List Opn) (p : Int), opsOk k lo hi p os = true → (∀ o ∈ os, 0 ≤ o.rf) → ∀ o ∈ os, OpW o := by
  intro os
  induction os with
  | nil => intro p _ _ o h; cases h
  | cons o os ih =>
    intro p h h0 x hx
    unfold opsOk at h
    simp only [Bool.and_eq_true] at h
    rcases List.mem_cons.1 hx with rfl | hx
    · exact okOp_w h.1.1 (h0 _ (List.mem_cons_self ..))
    · exact ih _ h.2.2 (fun y hy => h0 y (List.mem_cons_of_mem _ hy)) x hx
theorem okFrm_w {f : Frm} (h : okFrm f = true) (h0 : 0 ≤ f.lo) (h1 : ∀ o ∈ f.ops, 0 ≤ o.rf) : FrW f := by
  obtain ⟨k, ss, lo, hi, a, b, c, os⟩ := f
  unfold okFrm nOk at h
  dsimp only at *
  simp only [Bool.and_eq_true, decide_eq_true_eq] at h
  obtain ⟨p1, p2, p3, p4, p5, p6⟩ := h
  have hn : (1 ≤ k ∧ k ≤ 5) ∧ os.length < 256 ∧ (k ≤ 2 → os = []) := by
    split at p1
    · simp only [decide_eq_true_eq] at p1
      exact ⟨by omega, by omega, fun _ => List.eq_nil_of_length_eq_zero p1⟩
    · split at p1
      · simp only [decide_eq_true_eq] at p1; exact ⟨by omega, by omega, fun _ => by omega⟩
      · split at p1
        · simp only [decide_eq_true_eq] at p1; exact ⟨by omega, by omega, fun _ => by omega⟩
        · split at p1
          · simp only [Bool.and_eq_true, decide_eq_true_eq] at p1; exact ⟨by omega, by omega, fun _ => by omega⟩
          · cases p1
  refine ⟨hn.1, by dsimp only; omega, ⟨h0, ?_, fun e => (p2 e).1⟩, ⟨?_, ?_, fun e => (p2 e).2⟩, p4, hn.2, opsOk_w os _ p6 h1⟩
  · dsimp only
    by_cases e : k = 5
    · have := p2 e; omega
    · have := p5 e; omega
  · dsimp only
    by_cases e : k = 5
    · have := p2 e; omega
    · have := p5 e; omega
  · dsimp only
    by_cases e : k = 5
    · have := p2 e; omega
    · have := p5 e; omega
/-- A frame, as the reference reads it; at_ and bad behind. -/
def frL (s : ByteArray) : Frm × Bool :=
  let k := byAt s 0
  let f1 := fewL s (nextAt s 0) (decide (s.size ≤ 0))
  let lo := if k = 5 then (0, f1.2.1, f1.2.2) else numL s 8 0 f1.2.1 f1.2.2 0
  let hi := if k = 5 then (0, f1.2.1, f1.2.2) else numL s 8 0 lo.2.1 lo.2.2 0
  let a1 := nextAt s hi.2.1
  let a2 := nextAt s a1
  let dg : (Int × Int × Int) × Nat × Bool := if k = 1 then ((byAt s hi.2.1, byAt s a1, byAt s a2), nextAt s a2, ((hi.2.2 || decide (s.size ≤ hi.2.1)) || decide (s.size ≤ a1)) || decide (s.size ≤ a2)) else ((0, 0, 0), hi.2.1, hi.2.2)
  let os : List Opn × Nat × Bool := if 2 < k then opsL s (byAt s dg.2.1).toNat (nextAt s dg.2.1) (dg.2.2 || decide (s.size ≤ dg.2.1)) else ([], dg.2.1, dg.2.2)
  (⟨k, f1.1, lo.1, hi.1, dg.1.1, dg.1.2.1, dg.1.2.2, os.1⟩, os.2.2)
theorem frL_lies {s : ByteArray} {f : Frm} (hw : FrW f) (hl : Lies s 0 (frB f)) : frL s = (f, false) := by
  obtain ⟨k, ss, lo, hi, a, b, c, os⟩ := f
  obtain ⟨⟨k1, k2⟩, ⟨a1, b1⟩, ⟨a2, b2, c2⟩, ⟨a3, b3, c3⟩, hd, ⟨n1, n2⟩, ho⟩ := hw
  unfold frB at hl
  dsimp only at *
  obtain ⟨l0, e0, hl⟩ := hl.cons
  obtain ⟨l1, hl⟩ := hl.app
  obtain ⟨l2, hl⟩ := hl.app
  obtain ⟨l3, l4⟩ := hl.app
  unfold frL
  rw [nextAt, if_pos l0, decide_eq_false (by omega), few_lies a1 (by omega) l1]
  dsimp only
  rw [e0]
  generalize hA : 0 + 1 + (vn ss.toNat).length = A at *
  have hlo : (if k = 5 then ((0 : Int), A, false) else numL s 8 0 A false 0) = (lo, A + (if k = 5 then 0 else (vn lo.toNat).length), false) := by
    by_cases e : k = 5
    · rw [if_pos e, if_pos e, c2 e]; rfl
    · rw [if_pos e] at l2
      rw [if_neg e, if_neg e, num_lies a2 (by omega) l2.app.1]
  rw [hlo]
  dsimp only
  have hhi : (if k = 5 then ((0 : Int), A, false) else numL s 8 0 (A + (if k = 5 then 0 else (vn lo.toNat).length)) false 0) = (hi, A + (if k ≠ 5 then vn lo.toNat ++ vn hi.toNat else []).length, false) := by
    by_cases e : k = 5
    · rw [if_pos e, if_neg (by omega), c3 e]; rfl
    · rw [if_pos e] at l2
      rw [if_neg e, if_neg e, if_pos e, num_lies a3 (by omega) l2.app.2, List.length_append, Nat.add_assoc]
  rw [hhi]
  dsimp only
  generalize hB : A + (if k ≠ 5 then vn lo.toNat ++ vn hi.toNat else []).length = B at *
  have hdg : (if k = 1 then ((byAt s B, byAt s (nextAt s B), byAt s (nextAt s (nextAt s B))), nextAt s (nextAt s (nextAt s B)), ((false || decide (s.size ≤ B)) || decide (s.size ≤ nextAt s B)) || decide (s.size ≤ nextAt s (nextAt s B))) else ((0, 0, 0), B, false)) = ((a, b, c), B + (if k = 1 then [a, b, c] else []).length, false) := by
    by_cases e : k = 1
    · rw [if_pos e] at l3
      obtain ⟨z0, y0, l3⟩ := l3.cons
      obtain ⟨z1, y1, l3⟩ := l3.cons
      obtain ⟨z2, y2, l3⟩ := l3.cons
      have x0 : nextAt s B = B + 1 := if_pos z0
      have x1 : nextAt s (B + 1) = B + 1 + 1 := if_pos z1
      have x2 : nextAt s (B + 1 + 1) = B + 1 + 1 + 1 := if_pos z2
      rw [if_pos e, if_pos e, x0, x1, x2, y0, y1, y2, decide_eq_false (by omega), decide_eq_false (by omega), decide_eq_false (by omega)]
      rfl
    · obtain ⟨rfl, rfl, rfl⟩ := hd e
      rw [if_neg e, if_neg e]; rfl
  rw [hdg]
  dsimp only
  generalize hC : B + (if k = 1 then [a, b, c] else []).length = C at *
  have hos : (if 2 < k then opsL s (byAt s C).toNat (nextAt s C) (false || decide (s.size ≤ C)) else ([], C, false)) = (os, C + (if 2 < k then (os.length : Int) :: osB os else []).length, false) := by
    by_cases e : 2 < k
    · rw [if_pos e] at l4
      obtain ⟨z0, y0, l4⟩ := l4.cons
      rw [if_pos e, if_pos e, y0, nextAt, if_pos z0, decide_eq_false (by omega), Int.toNat_natCast]
      show opsL s os.length (C + 1) false = _
      rw [ops_lies os _ ho l4, List.length_cons, show C + 1 + (osB os).length = C + ((osB os).length + 1) by omega]
    · rw [if_neg e, if_neg e, n2 (by omega)]; rfl
  rw [hos]
end Go.Proofs.YtgccjefbedpmpaaGreatDoor

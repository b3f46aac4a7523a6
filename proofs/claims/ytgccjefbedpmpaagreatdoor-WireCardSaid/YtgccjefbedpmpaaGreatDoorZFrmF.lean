import Derived.Test.YtgccjefbedpmpaaGreatDoorGRightOp
import Derived.Test.YtgccjefbedpmpaaGreatDoorZEqD
namespace Go.Proofs.YtgccjefbedpmpaaGreatDoor
open Go.RowKit
theorem nOk_eq (k : Int) (n : Nat) : nOk k n = ((decide (1 ≤ k) && decide (k ≤ 5)) && (decide ((cntL k).1 ≤ n) && decide ((n : Int) ≤ (cntL k).2))) := by
  unfold nOk cntL
  by_cases h1 : k = 1 ∨ k = 2
  · rw [if_pos h1, if_neg (by omega), if_neg (by omega), if_neg (by omega), decide_eq_true (show 1 ≤ k by omega), decide_eq_true (show k ≤ 5 by omega)]
    simp
  · rw [if_neg h1]
    by_cases h3 : k = 3
    · subst h3; by_cases hn : n = 1 <;> simp [hn] <;> omega
    · by_cases h4 : k = 4
      · subst h4; by_cases b : n ≤ 4 <;> simp <;> omega
      · by_cases h5 : k = 5
        · subst h5; refine Bool.eq_iff_iff.2 ?_; simp; omega
        · rw [if_neg h3, if_neg h4, if_neg h5]
          by_cases h : 1 ≤ k
          · rw [decide_eq_false (show ¬ k ≤ 5 by omega)]; simp
          · rw [decide_eq_false h]; simp
/-- A frame's value: its numbers, and its list of operations. -/
def Frm.val (f : Frm) (v : Value) : Value := .agg #[.int .i64 f.kd, .int .u32 f.ss, .int .u64 f.lo, .int .u64 f.hi, .int .u8 f.d0, .int .u8 f.d1, .int .u8 f.d2, v]
theorem okFrm_eq (f : Frm) : okFrm f = (nOk f.kd f.ops.length && ((decide (1 ≤ f.ss) && decide (f.ss ≤ 1073741823)) && (decide (f.kd ≠ 1 → f.d0 = 0 ∧ f.d1 = 0 ∧ f.d2 = 0) && (rngOk f.kd f.lo f.hi && opsOk f.kd f.lo f.hi (-1) f.ops)))) := by
  unfold okFrm rngOk
  rw [Bool.decide_and]
  generalize opsOk f.kd f.lo f.hi (-1) f.ops = A
  generalize nOk f.kd f.ops.length = B
  generalize decide (f.kd = 5 → f.lo = 0 ∧ f.hi = 0) = C
  generalize decide (f.kd ≠ 1 → f.d0 = 0 ∧ f.d1 = 0 ∧ f.d2 = 0) = D
  generalize decide (f.kd ≠ 5 → f.lo < f.hi ∧ f.hi ≤ 1099511627776) = E
  generalize decide (1 ≤ f.ss) = G
  generalize decide (f.ss ≤ 1073741823) = H
  cases A <;> cases B <;> cases C <;> cases D <;> cases E <;> cases G <;> cases H <;> rfl
theorem fr8N {w W w3 : World} {c0 c1 c2 c3 c4 c5 c6 c7 : Value} (hb : Below W.heap.size W w3) (hW : W = w.alloc (.cells #[c0, c1, c2, c3, c4, c5, c6, c7] 58)) : w3.cell? ⟨w.heap.size, 0, none⟩ = some c0 ∧ w3.cell? ⟨w.heap.size, 1, none⟩ = some c1 ∧ w3.cell? ⟨w.heap.size, 2, none⟩ = some c2 ∧ w3.cell? ⟨w.heap.size, 3, none⟩ = some c3 ∧ w3.cell? ⟨w.heap.size, 4, none⟩ = some c4 ∧ w3.cell? ⟨w.heap.size, 5, none⟩ = some c5 ∧ w3.cell? ⟨w.heap.size, 6, none⟩ = some c6 ∧ w3.cell? ⟨w.heap.size, 7, none⟩ = some c7 := by
  subst hW
  have k : ∀ j v, (#[c0, c1, c2, c3, c4, c5, c6, c7])[j]? = some v → w3.cell? ⟨w.heap.size, j, none⟩ = some v := fun j v h => (hb.cell (p := ⟨w.heap.size, j, none⟩) (by simp)).trans ((cell_of_row _ _ _ _ _ _ (heap_alloc_new w _)).trans h)
  exact ⟨k 0 _ rfl, k 1 _ rfl, k 2 _ rfl, k 3 _ rfl, k 4 _ rfl, k 5 _ rfl, k 6 _ rfl, k 7 _ rfl⟩
set_option maxRecDepth 100000 in
set_option maxHeartbeats 4000000 in
theorem frameFault_any (k ss lo hi d0 d1 d2 : Int) (a : Option Addr) (cap : Nat) (os : List Opn) (hT : ∀ o ∈ os, OpT o) (w : World) (hS : Sents w) (hT10 : Tens w) (hO : OpsIs w a os) :
    Calls Tryz.prog 180 #[.agg #[.int .i64 k, .int .u32 ss, .int .u64 lo, .int .u64 hi, .int .u8 d0, .int .u8 d1, .int .u8 d2, .slice a os.length cap]] w fun e w' => ∃ x, e = .returned x ∧ (okFrm ⟨k, ss, lo, hi, d0, d1, d2, os⟩ = true → x = .nilIface) ∧ (okFrm ⟨k, ss, lo, hi, d0, d1, d2, os⟩ = false → Err x) ∧ Below w.heap.size w w' := by
  have hz : Below w.heap.size w (w.alloc (.cells #[.int .i64 k, .int .u32 ss, .int .u64 lo, .int .u64 hi, .int .u8 d0, .int .u8 d1, .int .u8 d2, .slice a os.length cap] 58)) := (Below.refl _ _).alloc (Nat.le_refl _) _
  have hE := okFrm_eq ⟨k, ss, lo, hi, d0, d1, d2, os⟩
  rw [nOk_eq] at hE
  dsimp only at hE
  have hM6 : (cntL k).2 ≤ 6 := by unfold cntL; split <;> (try split) <;> (try split) <;> decide
  have HM6 : Hid ((cntL k).2 ≤ 6) := hM6
  have HS0 : Hid (Sents w ∧ Tens w ∧ OpsIs w a os) := ⟨hS, hT10, hO⟩
  obtain ⟨⟨aB, sB⟩, -, -, ⟨aE, sE⟩, ⟨aC, sC⟩, -, -, -, -⟩ := hS.below hz
  have Hct : Hid (∀ W, Calls Tryz.prog 241 #[.int .i64 k] W fun e w' => e = .returned (.tuple #[.int .i64 (cntL k).1, .int .i64 (cntL k).2]) ∧ w' = W) := counts_any k
  have Hss : Hid (∀ W, Calls Tryz.prog 61 #[.int .u32 ss] W fun e w' => e = .returned (.bool (decide (1 ≤ ss) && decide (ss ≤ 1073741823))) ∧ w' = W) := isSession_any ss
  have Hrg : Hid (1 ≤ k ∧ k ≤ 5 → Calls Tryz.prog 242 #[.agg #[.int .i64 k, .int .u32 ss, .int .u64 lo, .int .u64 hi, .int .u8 d0, .int .u8 d1, .int .u8 d2, .slice a os.length cap]] (w.alloc (.cells #[.int .i64 k, .int .u32 ss, .int .u64 lo, .int .u64 hi, .int .u8 d0, .int .u8 d1, .int .u8 d2, .slice a os.length cap] 58)) fun e w' => ∃ x, e = .returned x ∧ (rngOk k lo hi = true → x = .nilIface) ∧ (rngOk k lo hi = false → Err x) ∧ Below (w.alloc (.cells #[.int .i64 k, .int .u32 ss, .int .u64 lo, .int .u64 hi, .int .u8 d0, .int .u8 d1, .int .u8 d2, .slice a os.length cap] 58)).heap.size (w.alloc (.cells #[.int .i64 k, .int .u32 ss, .int .u64 lo, .int .u64 hi, .int .u8 d0, .int .u8 d1, .int .u8 d2, .slice a os.length cap] 58)) w') := fun hk => rangeFault_any k ss lo hi d0 d1 d2 _ hk _ (hS.below hz)
  have Hop : Hid (1 ≤ k ∧ k ≤ 5 → os.length ≤ 6 → ∀ W, Below w.heap.size w W → Calls Tryz.prog 243 #[.agg #[.int .i64 k, .int .u32 ss, .int .u64 lo, .int .u64 hi, .int .u8 d0, .int .u8 d1, .int .u8 d2, .slice a os.length cap]] W fun e w' => ∃ x, e = .returned x ∧ (opsOk k lo hi (-1) os = true → x = .nilIface) ∧ (opsOk k lo hi (-1) os = false → Err x) ∧ Below W.heap.size W w') := fun hk hn W hb => opsFault_any k ss lo hi d0 d1 d2 a cap os hk hn hT W (HS0.out.1.below hb) (HS0.out.2.1.below hb) (HS0.out.2.2.below hb)
  generalize okFrm ⟨k, ss, lo, hi, d0, d1, d2, os⟩ = R at *
  generalize (decide (1 ≤ ss) && decide (ss ≤ 1073741823)) = SS at *
  generalize rngOk k lo hi = RG at *
  generalize opsOk k lo hi (-1) os = OP at *
  generalize hL : (cntL k).1 = L at *
  generalize hM : (cntL k).2 = M at *
  have HE : Hid (R = _) := hE
  clear hE hS hT10 hO hT hM6 hL hM
  rcases Int.lt_or_le k 1 with k1 | k1
  · have k1' : ¬ 1 ≤ k := by omega
    go_enter Tryz.func180, Tryz.ntmps180
    go_wp2_with (first
      | (go_at_call 241; refine (Hct.out _).mono ?_; rintro e w1 ⟨rfl, rfl⟩)
      | (go_at_call 61; refine (Hss.out _).mono ?_; rintro e w1 ⟨rfl, rfl⟩)
      | (go_at_call 242; refine (Hrg.out HK).mono ?_; rintro e w2 ⟨x, rfl, HX1, HX2, hb2⟩; fail; have hz2 := hz.trans (hb2.mono (by simp)); obtain ⟨r0, r1, r2, r3, r4, r5, r6, r7⟩ := fr8N hb2 rfl)
      | (go_at_call 243; refine (Hop.out HK HN6 _ hz2).mono ?_; rintro e w3 ⟨x, rfl, HY1, HY2, hb3⟩; fail; have hz3 := hz2.trans (hb3.mono hz2.size))
      | (go_at_call 120; refine (in_err _ _ ⟨_, _, rfl⟩ _).mono ?_; rintro e w5 ⟨⟨x, rfl, hx5⟩, hb5⟩))
    go_ret
    exact ⟨_, rfl, fun h => absurd (HE.out.symm.trans h) (by first | (simp [*]; done) | (simp [*]; intros; omega) | (simp; omega)), fun _ => hx5, hz.trans (hb5.mono (by simp))⟩
  · have k1' : ¬ k < 1 := by omega
    rcases Int.lt_or_le 5 k with k2 | k2
    · have k2' : ¬ k ≤ 5 := by omega
      go_enter Tryz.func180, Tryz.ntmps180
      go_wp2_with (first
        | (go_at_call 241; refine (Hct.out _).mono ?_; rintro e w1 ⟨rfl, rfl⟩)
        | (go_at_call 61; refine (Hss.out _).mono ?_; rintro e w1 ⟨rfl, rfl⟩)
        | (go_at_call 242; refine (Hrg.out HK).mono ?_; rintro e w2 ⟨x, rfl, HX1, HX2, hb2⟩; fail; have hz2 := hz.trans (hb2.mono (by simp)); obtain ⟨r0, r1, r2, r3, r4, r5, r6, r7⟩ := fr8N hb2 rfl)
        | (go_at_call 243; refine (Hop.out HK HN6 _ hz2).mono ?_; rintro e w3 ⟨x, rfl, HY1, HY2, hb3⟩; fail; have hz3 := hz2.trans (hb3.mono hz2.size))
        | (go_at_call 120; refine (in_err _ _ ⟨_, _, rfl⟩ _).mono ?_; rintro e w5 ⟨⟨x, rfl, hx5⟩, hb5⟩))
      go_ret
      exact ⟨_, rfl, fun h => absurd (HE.out.symm.trans h) (by first | (simp [*]; done) | (simp [*]; intros; omega) | (simp; omega)), fun _ => hx5, hz.trans (hb5.mono (by simp))⟩
    · have k2' : ¬ 5 < k := by omega
      have HK : 1 ≤ k ∧ k ≤ 5 := ⟨k1, k2⟩
      cases SS
      · skip
        go_enter Tryz.func180, Tryz.ntmps180
        go_wp2_with (first
          | (go_at_call 241; refine (Hct.out _).mono ?_; rintro e w1 ⟨rfl, rfl⟩)
          | (go_at_call 61; refine (Hss.out _).mono ?_; rintro e w1 ⟨rfl, rfl⟩)
          | (go_at_call 242; refine (Hrg.out HK).mono ?_; rintro e w2 ⟨x, rfl, HX1, HX2, hb2⟩; fail; have hz2 := hz.trans (hb2.mono (by simp)); obtain ⟨r0, r1, r2, r3, r4, r5, r6, r7⟩ := fr8N hb2 rfl)
          | (go_at_call 243; refine (Hop.out HK HN6 _ hz2).mono ?_; rintro e w3 ⟨x, rfl, HY1, HY2, hb3⟩; fail; have hz3 := hz2.trans (hb3.mono hz2.size))
          | (go_at_call 120; refine (in_err _ _ ⟨_, _, rfl⟩ _).mono ?_; rintro e w5 ⟨⟨x, rfl, hx5⟩, hb5⟩))
        go_ret
        exact ⟨_, rfl, fun h => absurd (HE.out.symm.trans h) (by first | (simp [*]; done) | (simp [*]; intros; omega) | (simp; omega)), fun _ => hx5, hz.trans (hb5.mono (by simp))⟩
      · by_cases ka : k = 1
        · subst ka
          rcases Int.lt_or_le (os.length : Int) L with n1 | n1
          · have n1' : ¬ L ≤ (os.length : Int) := by omega
            go_enter Tryz.func180, Tryz.ntmps180
            go_wp2_with (first
              | (go_at_call 241; refine (Hct.out _).mono ?_; rintro e w1 ⟨rfl, rfl⟩)
              | (go_at_call 61; refine (Hss.out _).mono ?_; rintro e w1 ⟨rfl, rfl⟩)
              | (go_at_call 242; refine (Hrg.out HK).mono ?_; rintro e w2 ⟨x, rfl, HX1, HX2, hb2⟩; fail; have hz2 := hz.trans (hb2.mono (by simp)); obtain ⟨r0, r1, r2, r3, r4, r5, r6, r7⟩ := fr8N hb2 rfl)
              | (go_at_call 243; refine (Hop.out HK HN6 _ hz2).mono ?_; rintro e w3 ⟨x, rfl, HY1, HY2, hb3⟩; fail; have hz3 := hz2.trans (hb3.mono hz2.size))
              | (go_at_call 120; refine (in_err _ _ ⟨_, _, rfl⟩ _).mono ?_; rintro e w5 ⟨⟨x, rfl, hx5⟩, hb5⟩))
            go_ret
            exact ⟨_, rfl, fun h => absurd (HE.out.symm.trans h) (by first | (simp [*]; done) | (simp [*]; intros; omega) | (simp; omega)), fun _ => hx5, hz.trans (hb5.mono (by simp))⟩
          · have n1' : ¬ (os.length : Int) < L := by omega
            rcases Int.lt_or_le M (os.length : Int) with n2 | n2
            · have n2' : ¬ (os.length : Int) ≤ M := by omega
              go_enter Tryz.func180, Tryz.ntmps180
              go_wp2_with (first
                | (go_at_call 241; refine (Hct.out _).mono ?_; rintro e w1 ⟨rfl, rfl⟩)
                | (go_at_call 61; refine (Hss.out _).mono ?_; rintro e w1 ⟨rfl, rfl⟩)
                | (go_at_call 242; refine (Hrg.out HK).mono ?_; rintro e w2 ⟨x, rfl, HX1, HX2, hb2⟩; fail; have hz2 := hz.trans (hb2.mono (by simp)); obtain ⟨r0, r1, r2, r3, r4, r5, r6, r7⟩ := fr8N hb2 rfl)
                | (go_at_call 243; refine (Hop.out HK HN6 _ hz2).mono ?_; rintro e w3 ⟨x, rfl, HY1, HY2, hb3⟩; fail; have hz3 := hz2.trans (hb3.mono hz2.size))
                | (go_at_call 120; refine (in_err _ _ ⟨_, _, rfl⟩ _).mono ?_; rintro e w5 ⟨⟨x, rfl, hx5⟩, hb5⟩))
              go_ret
              exact ⟨_, rfl, fun h => absurd (HE.out.symm.trans h) (by first | (simp [*]; done) | (simp [*]; intros; omega) | (simp; omega)), fun _ => hx5, hz.trans (hb5.mono (by simp))⟩
            · have n2' : ¬ M < (os.length : Int) := by omega
              have HN6 : os.length ≤ 6 := by have := HM6.out; omega
              cases RG
              · skip
                go_enter Tryz.func180, Tryz.ntmps180
                go_wp2_with (first
                  | (go_at_call 241; refine (Hct.out _).mono ?_; rintro e w1 ⟨rfl, rfl⟩)
                  | (go_at_call 61; refine (Hss.out _).mono ?_; rintro e w1 ⟨rfl, rfl⟩)
                  | (go_at_call 242; refine (Hrg.out HK).mono ?_; rintro e w2 ⟨x, rfl, HX1, HX2, hb2⟩; obtain ⟨t, y, rfl⟩ := HX2 (by trivial); have hz2 := hz.trans (hb2.mono (by simp)); obtain ⟨r0, r1, r2, r3, r4, r5, r6, r7⟩ := fr8N hb2 rfl)
                  | (go_at_call 243; refine (Hop.out HK HN6 _ hz2).mono ?_; rintro e w3 ⟨x, rfl, HY1, HY2, hb3⟩; fail; have hz3 := hz2.trans (hb3.mono hz2.size))
                  | (go_at_call 120; refine (in_err _ _ ⟨_, _, rfl⟩ _).mono ?_; rintro e w5 ⟨⟨x, rfl, hx5⟩, hb5⟩))
                go_ret
                exact ⟨_, rfl, fun h => absurd (HE.out.symm.trans h) (by first | (simp [*]; done) | (simp [*]; intros; omega) | (simp; omega)), fun _ => hx5, hz2.trans (hb5.mono hz2.size)⟩
              · cases OP
                · skip
                  go_enter Tryz.func180, Tryz.ntmps180
                  go_wp2_with (first
                    | (go_at_call 241; refine (Hct.out _).mono ?_; rintro e w1 ⟨rfl, rfl⟩)
                    | (go_at_call 61; refine (Hss.out _).mono ?_; rintro e w1 ⟨rfl, rfl⟩)
                    | (go_at_call 242; refine (Hrg.out HK).mono ?_; rintro e w2 ⟨x, rfl, HX1, HX2, hb2⟩; obtain rfl := HX1 (by trivial); have hz2 := hz.trans (hb2.mono (by simp)); obtain ⟨r0, r1, r2, r3, r4, r5, r6, r7⟩ := fr8N hb2 rfl)
                    | (go_at_call 243; refine (Hop.out HK HN6 _ hz2).mono ?_; rintro e w3 ⟨x, rfl, HY1, HY2, hb3⟩; obtain ⟨t, y, rfl⟩ := HY2 (by trivial); have hz3 := hz2.trans (hb3.mono hz2.size))
                    | (go_at_call 120; refine (in_err _ _ ⟨_, _, rfl⟩ _).mono ?_; rintro e w5 ⟨⟨x, rfl, hx5⟩, hb5⟩))
                  go_ret
                  exact ⟨_, rfl, fun h => absurd (HE.out.symm.trans h) (by first | (simp [*]; done) | (simp [*]; intros; omega) | (simp; omega)), fun _ => hx5, hz3.trans (hb5.mono hz3.size)⟩
                · skip
                  go_enter Tryz.func180, Tryz.ntmps180
                  go_wp2_with (first
                    | (go_at_call 241; refine (Hct.out _).mono ?_; rintro e w1 ⟨rfl, rfl⟩)
                    | (go_at_call 61; refine (Hss.out _).mono ?_; rintro e w1 ⟨rfl, rfl⟩)
                    | (go_at_call 242; refine (Hrg.out HK).mono ?_; rintro e w2 ⟨x, rfl, HX1, HX2, hb2⟩; obtain rfl := HX1 (by trivial); have hz2 := hz.trans (hb2.mono (by simp)); obtain ⟨r0, r1, r2, r3, r4, r5, r6, r7⟩ := fr8N hb2 rfl)
                    | (go_at_call 243; refine (Hop.out HK HN6 _ hz2).mono ?_; rintro e w3 ⟨x, rfl, HY1, HY2, hb3⟩; obtain rfl := HY1 (by trivial); have hz3 := hz2.trans (hb3.mono hz2.size))
                    | (go_at_call 120; refine (in_nil _ _).mono ?_; rintro e w5 ⟨rfl, rfl⟩))
                  go_ret
                  exact ⟨_, rfl, fun _ => rfl, fun h => absurd (HE.out.symm.trans h) (by first | (simp [*]; done) | (simp [*]; intros; omega) | (simp; omega)), hz3⟩
        · have ka' : (k != 1) = true := by simpa using ka
          have hD := eqDigG
          by_cases zd0 : d0 = 0
          · subst zd0
            by_cases zd1 : d1 = 0
            · subst zd1
              by_cases zd2 : d2 = 0
              · subst zd2
                rcases Int.lt_or_le (os.length : Int) L with n1 | n1
                · have n1' : ¬ L ≤ (os.length : Int) := by omega
                  go_enter Tryz.func180, Tryz.ntmps180
                  go_wp2_with (first
                    | (go_at_call 241; refine (Hct.out _).mono ?_; rintro e w1 ⟨rfl, rfl⟩)
                    | (go_at_call 61; refine (Hss.out _).mono ?_; rintro e w1 ⟨rfl, rfl⟩)
                    | (go_at_call 242; refine (Hrg.out HK).mono ?_; rintro e w2 ⟨x, rfl, HX1, HX2, hb2⟩; fail; have hz2 := hz.trans (hb2.mono (by simp)); obtain ⟨r0, r1, r2, r3, r4, r5, r6, r7⟩ := fr8N hb2 rfl)
                    | (go_at_call 243; refine (Hop.out HK HN6 _ hz2).mono ?_; rintro e w3 ⟨x, rfl, HY1, HY2, hb3⟩; fail; have hz3 := hz2.trans (hb3.mono hz2.size))
                    | (go_at_call 120; refine (in_err _ _ ⟨_, _, rfl⟩ _).mono ?_; rintro e w5 ⟨⟨x, rfl, hx5⟩, hb5⟩))
                  go_ret
                  exact ⟨_, rfl, fun h => absurd (HE.out.symm.trans h) (by first | (simp [*]; done) | (simp [*]; intros; omega) | (simp; omega)), fun _ => hx5, hz.trans (hb5.mono (by simp))⟩
                · have n1' : ¬ (os.length : Int) < L := by omega
                  rcases Int.lt_or_le M (os.length : Int) with n2 | n2
                  · have n2' : ¬ (os.length : Int) ≤ M := by omega
                    go_enter Tryz.func180, Tryz.ntmps180
                    go_wp2_with (first
                      | (go_at_call 241; refine (Hct.out _).mono ?_; rintro e w1 ⟨rfl, rfl⟩)
                      | (go_at_call 61; refine (Hss.out _).mono ?_; rintro e w1 ⟨rfl, rfl⟩)
                      | (go_at_call 242; refine (Hrg.out HK).mono ?_; rintro e w2 ⟨x, rfl, HX1, HX2, hb2⟩; fail; have hz2 := hz.trans (hb2.mono (by simp)); obtain ⟨r0, r1, r2, r3, r4, r5, r6, r7⟩ := fr8N hb2 rfl)
                      | (go_at_call 243; refine (Hop.out HK HN6 _ hz2).mono ?_; rintro e w3 ⟨x, rfl, HY1, HY2, hb3⟩; fail; have hz3 := hz2.trans (hb3.mono hz2.size))
                      | (go_at_call 120; refine (in_err _ _ ⟨_, _, rfl⟩ _).mono ?_; rintro e w5 ⟨⟨x, rfl, hx5⟩, hb5⟩))
                    go_ret
                    exact ⟨_, rfl, fun h => absurd (HE.out.symm.trans h) (by first | (simp [*]; done) | (simp [*]; intros; omega) | (simp; omega)), fun _ => hx5, hz.trans (hb5.mono (by simp))⟩
                  · have n2' : ¬ M < (os.length : Int) := by omega
                    have HN6 : os.length ≤ 6 := by have := HM6.out; omega
                    cases RG
                    · skip
                      go_enter Tryz.func180, Tryz.ntmps180
                      go_wp2_with (first
                        | (go_at_call 241; refine (Hct.out _).mono ?_; rintro e w1 ⟨rfl, rfl⟩)
                        | (go_at_call 61; refine (Hss.out _).mono ?_; rintro e w1 ⟨rfl, rfl⟩)
                        | (go_at_call 242; refine (Hrg.out HK).mono ?_; rintro e w2 ⟨x, rfl, HX1, HX2, hb2⟩; obtain ⟨t, y, rfl⟩ := HX2 (by trivial); have hz2 := hz.trans (hb2.mono (by simp)); obtain ⟨r0, r1, r2, r3, r4, r5, r6, r7⟩ := fr8N hb2 rfl)
                        | (go_at_call 243; refine (Hop.out HK HN6 _ hz2).mono ?_; rintro e w3 ⟨x, rfl, HY1, HY2, hb3⟩; fail; have hz3 := hz2.trans (hb3.mono hz2.size))
                        | (go_at_call 120; refine (in_err _ _ ⟨_, _, rfl⟩ _).mono ?_; rintro e w5 ⟨⟨x, rfl, hx5⟩, hb5⟩))
                      go_ret
                      exact ⟨_, rfl, fun h => absurd (HE.out.symm.trans h) (by first | (simp [*]; done) | (simp [*]; intros; omega) | (simp; omega)), fun _ => hx5, hz2.trans (hb5.mono hz2.size)⟩
                    · cases OP
                      · skip
                        go_enter Tryz.func180, Tryz.ntmps180
                        go_wp2_with (first
                          | (go_at_call 241; refine (Hct.out _).mono ?_; rintro e w1 ⟨rfl, rfl⟩)
                          | (go_at_call 61; refine (Hss.out _).mono ?_; rintro e w1 ⟨rfl, rfl⟩)
                          | (go_at_call 242; refine (Hrg.out HK).mono ?_; rintro e w2 ⟨x, rfl, HX1, HX2, hb2⟩; obtain rfl := HX1 (by trivial); have hz2 := hz.trans (hb2.mono (by simp)); obtain ⟨r0, r1, r2, r3, r4, r5, r6, r7⟩ := fr8N hb2 rfl)
                          | (go_at_call 243; refine (Hop.out HK HN6 _ hz2).mono ?_; rintro e w3 ⟨x, rfl, HY1, HY2, hb3⟩; obtain ⟨t, y, rfl⟩ := HY2 (by trivial); have hz3 := hz2.trans (hb3.mono hz2.size))
                          | (go_at_call 120; refine (in_err _ _ ⟨_, _, rfl⟩ _).mono ?_; rintro e w5 ⟨⟨x, rfl, hx5⟩, hb5⟩))
                        go_ret
                        exact ⟨_, rfl, fun h => absurd (HE.out.symm.trans h) (by first | (simp [*]; done) | (simp [*]; intros; omega) | (simp; omega)), fun _ => hx5, hz3.trans (hb5.mono hz3.size)⟩
                      · skip
                        go_enter Tryz.func180, Tryz.ntmps180
                        go_wp2_with (first
                          | (go_at_call 241; refine (Hct.out _).mono ?_; rintro e w1 ⟨rfl, rfl⟩)
                          | (go_at_call 61; refine (Hss.out _).mono ?_; rintro e w1 ⟨rfl, rfl⟩)
                          | (go_at_call 242; refine (Hrg.out HK).mono ?_; rintro e w2 ⟨x, rfl, HX1, HX2, hb2⟩; obtain rfl := HX1 (by trivial); have hz2 := hz.trans (hb2.mono (by simp)); obtain ⟨r0, r1, r2, r3, r4, r5, r6, r7⟩ := fr8N hb2 rfl)
                          | (go_at_call 243; refine (Hop.out HK HN6 _ hz2).mono ?_; rintro e w3 ⟨x, rfl, HY1, HY2, hb3⟩; obtain rfl := HY1 (by trivial); have hz3 := hz2.trans (hb3.mono hz2.size))
                          | (go_at_call 120; refine (in_nil _ _).mono ?_; rintro e w5 ⟨rfl, rfl⟩))
                        go_ret
                        exact ⟨_, rfl, fun _ => rfl, fun h => absurd (HE.out.symm.trans h) (by first | (simp [*]; done) | (simp [*]; intros; omega) | (simp; omega)), hz3⟩
              · have qd2 : (d2 == 0) = false := by simpa using zd2
                go_enter Tryz.func180, Tryz.ntmps180
                go_wp2_with (first
                  | (go_at_call 241; refine (Hct.out _).mono ?_; rintro e w1 ⟨rfl, rfl⟩)
                  | (go_at_call 61; refine (Hss.out _).mono ?_; rintro e w1 ⟨rfl, rfl⟩)
                  | (go_at_call 242; refine (Hrg.out HK).mono ?_; rintro e w2 ⟨x, rfl, HX1, HX2, hb2⟩; fail; have hz2 := hz.trans (hb2.mono (by simp)); obtain ⟨r0, r1, r2, r3, r4, r5, r6, r7⟩ := fr8N hb2 rfl)
                  | (go_at_call 243; refine (Hop.out HK HN6 _ hz2).mono ?_; rintro e w3 ⟨x, rfl, HY1, HY2, hb3⟩; fail; have hz3 := hz2.trans (hb3.mono hz2.size))
                  | (go_at_call 120; refine (in_err _ _ ⟨_, _, rfl⟩ _).mono ?_; rintro e w5 ⟨⟨x, rfl, hx5⟩, hb5⟩))
                go_ret
                exact ⟨_, rfl, fun h => absurd (HE.out.symm.trans h) (by first | (simp [*]; done) | (simp [*]; intros; omega) | (simp; omega)), fun _ => hx5, hz.trans (hb5.mono (by simp))⟩
            · have qd1 : (d1 == 0) = false := by simpa using zd1
              go_enter Tryz.func180, Tryz.ntmps180
              go_wp2_with (first
                | (go_at_call 241; refine (Hct.out _).mono ?_; rintro e w1 ⟨rfl, rfl⟩)
                | (go_at_call 61; refine (Hss.out _).mono ?_; rintro e w1 ⟨rfl, rfl⟩)
                | (go_at_call 242; refine (Hrg.out HK).mono ?_; rintro e w2 ⟨x, rfl, HX1, HX2, hb2⟩; fail; have hz2 := hz.trans (hb2.mono (by simp)); obtain ⟨r0, r1, r2, r3, r4, r5, r6, r7⟩ := fr8N hb2 rfl)
                | (go_at_call 243; refine (Hop.out HK HN6 _ hz2).mono ?_; rintro e w3 ⟨x, rfl, HY1, HY2, hb3⟩; fail; have hz3 := hz2.trans (hb3.mono hz2.size))
                | (go_at_call 120; refine (in_err _ _ ⟨_, _, rfl⟩ _).mono ?_; rintro e w5 ⟨⟨x, rfl, hx5⟩, hb5⟩))
              go_ret
              exact ⟨_, rfl, fun h => absurd (HE.out.symm.trans h) (by first | (simp [*]; done) | (simp [*]; intros; omega) | (simp; omega)), fun _ => hx5, hz.trans (hb5.mono (by simp))⟩
          · have qd0 : (d0 == 0) = false := by simpa using zd0
            go_enter Tryz.func180, Tryz.ntmps180
            go_wp2_with (first
              | (go_at_call 241; refine (Hct.out _).mono ?_; rintro e w1 ⟨rfl, rfl⟩)
              | (go_at_call 61; refine (Hss.out _).mono ?_; rintro e w1 ⟨rfl, rfl⟩)
              | (go_at_call 242; refine (Hrg.out HK).mono ?_; rintro e w2 ⟨x, rfl, HX1, HX2, hb2⟩; fail; have hz2 := hz.trans (hb2.mono (by simp)); obtain ⟨r0, r1, r2, r3, r4, r5, r6, r7⟩ := fr8N hb2 rfl)
              | (go_at_call 243; refine (Hop.out HK HN6 _ hz2).mono ?_; rintro e w3 ⟨x, rfl, HY1, HY2, hb3⟩; fail; have hz3 := hz2.trans (hb3.mono hz2.size))
              | (go_at_call 120; refine (in_err _ _ ⟨_, _, rfl⟩ _).mono ?_; rintro e w5 ⟨⟨x, rfl, hx5⟩, hb5⟩))
            go_ret
            exact ⟨_, rfl, fun h => absurd (HE.out.symm.trans h) (by first | (simp [*]; done) | (simp [*]; intros; omega) | (simp; omega)), fun _ => hx5, hz.trans (hb5.mono (by simp))⟩
theorem rightFrame_any (k ss lo hi d0 d1 d2 : Int) (a : Option Addr) (cap : Nat) (os : List Opn) (hT : ∀ o ∈ os, OpT o) (w : World) (hS : Sents w) (hT10 : Tens w) (hO : OpsIs w a os) :
    Calls Tryz.prog 106 #[.agg #[.int .i64 k, .int .u32 ss, .int .u64 lo, .int .u64 hi, .int .u8 d0, .int .u8 d1, .int .u8 d2, .slice a os.length cap]] w fun e w' => ∃ x, e = .returned x ∧ (okFrm ⟨k, ss, lo, hi, d0, d1, d2, os⟩ = true → x = .nilIface) ∧ (okFrm ⟨k, ss, lo, hi, d0, d1, d2, os⟩ = false → Ref w' 8 x) ∧ Below w.heap.size w w' := by
  have hz : Below w.heap.size w (w.alloc (.cells #[.int .i64 k, .int .u32 ss, .int .u64 lo, .int .u64 hi, .int .u8 d0, .int .u8 d1, .int .u8 d2, .slice a os.length cap] 58)) := (Below.refl _ _).alloc (Nat.le_refl _) _
  have hF := frameFault_any k ss lo hi d0 d1 d2 a cap os hT _ (hS.below hz) (hT10.below hz) (hO.below hz)
  have HF : Hid (Calls _ _ _ _ _) := hF
  clear hF hT hS hT10 hO
  generalize okFrm ⟨k, ss, lo, hi, d0, d1, d2, os⟩ = R at *
  cases R
  · go_enter Tryz.func106, Tryz.ntmps106
    go_wp2_with (first
      | (go_at_call 180; refine HF.out.mono ?_; rintro e w1 ⟨x, rfl, -, hx, hb1⟩; obtain ⟨t, y, rfl⟩ := hx rfl)
      | (go_at_call 110; refine (refuse_err _ _ ⟨_, _, rfl⟩ _).mono ?_; rintro e w2 ⟨⟨x, rfl, hr⟩, hb2⟩))
    go_ret
    have hb := hz.trans (hb1.mono (by simp))
    exact ⟨_, rfl, fun h => (by cases h), fun _ => hr, hb.trans (hb2.mono hb.size)⟩
  · go_enter Tryz.func106, Tryz.ntmps106
    go_wp2_with (first
      | (go_at_call 180; refine HF.out.mono ?_; rintro e w1 ⟨x, rfl, hx, -, hb1⟩; obtain rfl := hx rfl)
      | (go_at_call 110; refine (refuse_nil _ _).mono ?_; rintro e w2 ⟨rfl, rfl⟩))
    go_ret
    exact ⟨_, rfl, fun _ => rfl, fun h => (by cases h), hz.trans (hb1.mono (by simp))⟩
end Go.Proofs.YtgccjefbedpmpaaGreatDoor

import Derived.Test.YtgccjefbedpmpaaGreatDoorGRule
import Derived.Test.YtgccjefbedpmpaaGreatDoorZItoa
import Derived.Test.YtgccjefbedpmpaaGreatDoorGRefRd
namespace Go.Proofs.YtgccjefbedpmpaaGreatDoor
open Go.RowKit
theorem rightOp_any (kd cl ck st rf ch : Int) (hcl : 0 ≤ cl ∧ cl < 4294967296) (hck : 0 ≤ ck ∧ ck < 4294967296) (h0 : 0 ≤ rf) (h1 : rf < 18446744073709551616) (w : World) (hS : Sents w) :
    Calls Tryz.prog 92 #[.agg #[.int .i64 kd, .int .u32 cl, .int .u32 ck, .int .u32 st, .int .u64 rf, .int .i32 ch]] w fun e w' => ∃ x, e = .returned x ∧ (okOp kd cl ck st rf ch = true → x = .nilIface) ∧ (okOp kd cl ck st rf ch = false → Err x) ∧ Below w.heap.size w w' := by
  have hz : Below w.heap.size w (w.alloc (.cells #[.int .i64 kd, .int .u32 cl, .int .u32 ck, .int .u32 st, .int .u64 rf, .int .i32 ch] 43)) := (Below.refl _ _).alloc (Nat.le_refl _) _
  have hO := opFault_any kd cl ck st rf ch hcl hck h0 h1 _ (hS.below hz)
  have HO : Hid (Calls _ _ _ _ _) := hO
  clear hO
  generalize okOp kd cl ck st rf ch = R at *
  cases R
  · go_enter Tryz.func92, Tryz.ntmps92
    go_wp2_with (first
      | (go_at_call 164; refine HO.out.mono ?_; rintro e w1 ⟨x, rfl, -, hx, hb1⟩; obtain ⟨t, y, rfl⟩ := hx rfl)
      | (go_at_call 110; refine (refuse_err _ _ ⟨_, _, rfl⟩ _).mono ?_; rintro e w2 ⟨⟨x, rfl, hr⟩, hb2⟩))
    go_ret
    have hb := hz.trans (hb1.mono (by simp))
    exact ⟨_, rfl, fun h => (by cases h), fun _ => hr.err, hb.trans (hb2.mono hb.size)⟩
  · go_enter Tryz.func92, Tryz.ntmps92
    go_wp2_with (first
      | (go_at_call 164; refine HO.out.mono ?_; rintro e w1 ⟨x, rfl, hx, -, hb1⟩; obtain rfl := hx rfl)
      | (go_at_call 110; refine (refuse_nil _ _).mono ?_; rintro e w2 ⟨rfl, rfl⟩))
    go_ret
    exact ⟨_, rfl, fun _ => rfl, fun h => (by cases h), hz.trans (hb1.mono (by simp))⟩
theorem hasRange_any (k : Int) (w : World) : Calls Tryz.prog 182 #[.int .i64 k] w fun e w' => e = .returned (.bool (decide (1 ≤ k) && decide (k ≤ 4))) ∧ w' = w := by
  by_cases a1 : 1 ≤ k <;> by_cases a2 : k ≤ 4
  all_goals (
    go_enter Tryz.func182, Tryz.ntmps182
    go_wp2
    go_ret
    exact ⟨by simp [a1, a2], rfl⟩)
/-- How many operations a frame of this kind has, at least and at most. -/
def cntL (k : Int) : Int × Int := if k = 3 then (1, 1) else if k = 4 then (0, 4) else if k = 5 then (1, 6) else (0, 0)
theorem counts_any (k : Int) (w : World) : Calls Tryz.prog 241 #[.int .i64 k] w fun e w' => e = .returned (.tuple #[.int .i64 (cntL k).1, .int .i64 (cntL k).2]) ∧ w' = w := by
  by_cases a3 : k = 3
  · subst a3
    go_enter Tryz.func241, Tryz.ntmps241
    go_wp2
    go_ret2
    exact ⟨rfl, rfl⟩
  · by_cases a4 : k = 4
    · subst a4
      go_enter Tryz.func241, Tryz.ntmps241
      go_wp2
      go_ret2
      exact ⟨rfl, rfl⟩
    · by_cases a5 : k = 5
      · subst a5
        go_enter Tryz.func241, Tryz.ntmps241
        go_wp2
        go_ret2
        exact ⟨rfl, rfl⟩
      · go_enter Tryz.func241, Tryz.ntmps241
        go_wp2
        go_ret2
        exact ⟨by simp [cntL, a3, a4, a5], rfl⟩
theorem hasOps_any (k : Int) (w : World) : Calls Tryz.prog 183 #[.int .i64 k] w fun e w' => e = .returned (.bool (decide (3 ≤ k) && decide (k ≤ 5))) ∧ w' = w := by
  have e : (decide (0 < (cntL k).2)) = (decide (3 ≤ k) && decide (k ≤ 5)) := by
    unfold cntL
    split
    · subst k; rfl
    · split
      · subst k; rfl
      · split
        · subst k; rfl
        · rw [decide_eq_false (by decide)]
          by_cases h : 3 ≤ k
          · rw [decide_eq_false (show ¬ k ≤ 5 by omega), Bool.and_false]
          · rw [decide_eq_false h]; rfl
  go_enter Tryz.func183, Tryz.ntmps183
  go_wp2_with (go_at_call 241; refine (counts_any _ _).mono ?_; rintro e w1 ⟨rfl, rfl⟩)
  go_ret
  exact ⟨rfl, rfl⟩
end Go.Proofs.YtgccjefbedpmpaaGreatDoor
namespace Go.Proofs.YtgccjefbedpmpaaGreatDoor
open Go.RowKit
/-- An operation's cells. -/
def opV (o : Opn) : Nat → Value
  | 0 => .int .i64 o.kd
  | 1 => .int .u32 o.cl
  | 2 => .int .u32 o.ck
  | 3 => .int .u32 o.st
  | 4 => .int .u64 o.rf
  | _ => .int .i32 o.ch
/-- Its numbers are of their types. -/
structure OpT (o : Opn) : Prop where
  kd : -9223372036854775808 ≤ o.kd ∧ o.kd ≤ 9223372036854775807
  cl : 0 ≤ o.cl ∧ o.cl < 4294967296
  ck : 0 ≤ o.ck ∧ o.ck < 4294967296
  st : 0 ≤ o.st ∧ o.st < 4294967296
  rf : 0 ≤ o.rf ∧ o.rf < 18446744073709551616
  ch : -2147483648 ≤ o.ch ∧ o.ch ≤ 2147483647
/-- Operations lie one behind the other. -/
def OpsAt (w : World) (g off : Nat) (os : List Opn) : Prop := ∀ i (h : i < os.length) j, j < 6 → w.cell? ⟨g, off + i * 6 + j, none⟩ = some (opV os[i] j)
def OpsIs (w : World) (a : Option Addr) (os : List Opn) : Prop := os = [] ∨ ∃ g off, a = some ⟨g, off, none⟩ ∧ OpsAt w g off os
theorem OpsAt.below {w w' : World} {g off : Nat} {os : List Opn} (h : OpsAt w g off os) (hb : Below w.heap.size w w') : OpsAt w' g off os := fun i hi j hj =>
  (hb.cell (block_lt_of_cell (h i hi j hj))).trans (h i hi j hj)
theorem OpsIs.below {w w' : World} {a : Option Addr} {os : List Opn} (h : OpsIs w a os) (hb : Below w.heap.size w w') : OpsIs w' a os := h.elim Or.inl fun ⟨g, off, e, k⟩ => Or.inr ⟨g, off, e, k.below hb⟩
/-- The key ahead of the i-th. -/
def preK (os : List Opn) (i : Nat) : Int := if i = 0 then -1 else (os[i - 1]?.map Opn.key).getD 0
theorem opsOk_step (k lo hi : Int) (os : List Opn) {i : Nat} (h : i < os.length) : opsOk k lo hi (preK os i) (os.drop i) = ((os[i].ok && (decide (k = 5) || (decide (lo ≤ os[i].key) && decide (os[i].key < hi)))) && (decide (preK os i < os[i].key) && opsOk k lo hi (preK os (i + 1)) (os.drop (i + 1)))) := by
  rw [List.drop_eq_getElem_cons h, opsOk]
  have : preK os (i + 1) = os[i].key := by unfold preK; rw [if_neg (by omega), Nat.add_sub_cancel, List.getElem?_eq_getElem h]; rfl
  rw [this]
theorem OpsAt.cells {w : World} {g off : Nat} {os : List Opn} (h : OpsAt w g off os) {i : Nat} (hi : i < os.length) : w.cell? ⟨g, off + i * 6, none⟩ = some (.int .i64 os[i].kd) ∧ w.cell? ⟨g, off + i * 6 + 1, none⟩ = some (.int .u32 os[i].cl) ∧ w.cell? ⟨g, off + i * 6 + 2, none⟩ = some (.int .u32 os[i].ck) ∧ w.cell? ⟨g, off + i * 6 + 3, none⟩ = some (.int .u32 os[i].st) ∧ w.cell? ⟨g, off + i * 6 + 4, none⟩ = some (.int .u64 os[i].rf) ∧ w.cell? ⟨g, off + i * 6 + 5, none⟩ = some (.int .i32 os[i].ch) :=
  ⟨h i hi 0 (by omega), h i hi 1 (by omega), h i hi 2 (by omega), h i hi 3 (by omega), h i hi 4 (by omega), h i hi 5 (by omega)⟩
theorem op6N {w W w3 : World} {c0 c1 c2 c3 c4 c5 : Value} (hb : Below W.heap.size W w3) (hW : W = w.alloc (.cells #[c0, c1, c2, c3, c4, c5] 43)) : w3.cell? ⟨w.heap.size, 0, none⟩ = some c0 ∧ w3.cell? ⟨w.heap.size, 1, none⟩ = some c1 ∧ w3.cell? ⟨w.heap.size, 2, none⟩ = some c2 ∧ w3.cell? ⟨w.heap.size, 3, none⟩ = some c3 ∧ w3.cell? ⟨w.heap.size, 4, none⟩ = some c4 ∧ w3.cell? ⟨w.heap.size, 5, none⟩ = some c5 := by
  subst hW
  have k : ∀ j v, (#[c0, c1, c2, c3, c4, c5])[j]? = some v → w3.cell? ⟨w.heap.size, j, none⟩ = some v := fun j v h => (hb.cell (p := ⟨w.heap.size, j, none⟩) (by simp)).trans ((cell_of_row _ _ _ _ _ _ (heap_alloc_new w _)).trans h)
  exact ⟨k 0 _ rfl, k 1 _ rfl, k 2 _ rfl, k 3 _ rfl, k 4 _ rfl, k 5 _ rfl⟩
set_option maxRecDepth 100000 in
set_option maxHeartbeats 4000000 in
theorem opsFault_any (k ss lo hi d0 d1 d2 : Int) (a : Option Addr) (cap : Nat) (os : List Opn) (hk : 1 ≤ k ∧ k ≤ 5) (hn : os.length ≤ 6) (hT : ∀ o ∈ os, OpT o) (w : World) (hS : Sents w) (hT10 : Tens w) (hO : OpsIs w a os) :
    Calls Tryz.prog 243 #[.agg #[.int .i64 k, .int .u32 ss, .int .u64 lo, .int .u64 hi, .int .u8 d0, .int .u8 d1, .int .u8 d2, .slice a os.length cap]] w fun e w' => ∃ x, e = .returned x ∧ (opsOk k lo hi (-1) os = true → x = .nilIface) ∧ (opsOk k lo hi (-1) os = false → Err x) ∧ Below w.heap.size w w' := by
  have hz : Below w.heap.size w (w.alloc (.cells #[.int .i64 k, .int .u32 ss, .int .u64 lo, .int .u64 hi, .int .u8 d0, .int .u8 d1, .int .u8 d2, .slice a os.length cap] 58)) := (Below.refl _ _).alloc (Nat.le_refl _) _
  have q0 : (w.alloc (.cells #[.int .i64 k, .int .u32 ss, .int .u64 lo, .int .u64 hi, .int .u8 d0, .int .u8 d1, .int .u8 d2, .slice a os.length cap] 58)).cell? ⟨w.heap.size, 0, none⟩ = some (.int .i64 k) := (cell_of_row _ _ _ _ _ _ (heap_alloc_new w _)).trans rfl
  have q2 : (w.alloc (.cells #[.int .i64 k, .int .u32 ss, .int .u64 lo, .int .u64 hi, .int .u8 d0, .int .u8 d1, .int .u8 d2, .slice a os.length cap] 58)).cell? ⟨w.heap.size, 2, none⟩ = some (.int .u64 lo) := (cell_of_row _ _ _ _ _ _ (heap_alloc_new w _)).trans rfl
  have q3 : (w.alloc (.cells #[.int .i64 k, .int .u32 ss, .int .u64 lo, .int .u64 hi, .int .u8 d0, .int .u8 d1, .int .u8 d2, .slice a os.length cap] 58)).cell? ⟨w.heap.size, 3, none⟩ = some (.int .u64 hi) := (cell_of_row _ _ _ _ _ _ (heap_alloc_new w _)).trans rfl
  have q7 : (w.alloc (.cells #[.int .i64 k, .int .u32 ss, .int .u64 lo, .int .u64 hi, .int .u8 d0, .int .u8 d1, .int .u8 d2, .slice a os.length cap] 58)).cell? ⟨w.heap.size, 7, none⟩ = some (.slice a os.length cap) := (cell_of_row _ _ _ _ _ _ (heap_alloc_new w _)).trans rfl
  have hsz : (w.alloc (.cells #[.int .i64 k, .int .u32 ss, .int .u64 lo, .int .u64 hi, .int .u8 d0, .int .u8 d1, .int .u8 d2, .slice a os.length cap] 58)).heap.size = w.heap.size + 1 := by simp
  have HT : Hid (∀ o ∈ os, OpT o) := hT
  have HS : Hid (Sents w ∧ Tens w ∧ OpsIs w a os) := ⟨hS, hT10, hO⟩
  have hstep : ∀ i (h : i < os.length), opsOk k lo hi (preK os i) (os.drop i) = _ := fun i h => opsOk_step k lo hi os h
  have HST : Hid (∀ i (h : i < os.length), opsOk k lo hi (preK os i) (os.drop i) = _) := hstep
  clear hT hS hT10 hO hstep
  go_enter Tryz.func243, Tryz.ntmps243
  go_wp2_with fail
  generalize hW : (w.alloc (.cells #[.int .i64 k, .int .u32 ss, .int .u64 lo, .int .u64 hi, .int .u8 d0, .int .u8 d1, .int .u8 d2, .slice a os.length cap] 58)) = W at *
  go_loopw [11] (fun iv wr => ∃ i : Nat, i ≤ os.length ∧ iv = .int .i64 i ∧ opsOk k lo hi (-1) os = opsOk k lo hi (preK os i) (os.drop i) ∧ Below W.heap.size W wr) (fun iv _ => os.length - (intOf iv).toNat)
  case atStart => exact ⟨0, Nat.zero_le _, rfl, rfl, Below.refl _ _⟩
  case round =>
    obtain ⟨i, hi', rfl, hok, hbl⟩ := hrel
    have hB := hz.trans (hbl.mono (by omega))
    by_cases hlt : i < os.length
    · have li : (i : Int) < (os.length : Int) := by omega
      obtain ⟨hS, hT10, hO⟩ := HS.out
      have hTi := HT.out os[i] (List.getElem_mem hlt)
      rw [HST.out i hlt] at hok
      rcases hO with rfl | ⟨g, off, rfl, hO⟩
      · cases hlt
      have hO1 := hO.below hB
      obtain ⟨c0, c1, c2, c3, c4, c5⟩ := hO1.cells hlt
      have hpk : 0 < i → ∃ o', os[i - 1]? = some o' ∧ preK os i = o'.key := fun h => ⟨os[i - 1], List.getElem?_eq_getElem (by omega), by unfold preK; rw [if_neg (by omega), List.getElem?_eq_getElem (by omega)]; rfl⟩
      generalize hoi : os[i] = oi at *
      obtain ⟨kd, cl, ck, st, rf, ch⟩ := oi
      obtain ⟨t0, t1, t2, t3, t4, t5⟩ := hTi
      dsimp only at c0 c1 c2 c3 c4 c5 t0 t1 t2 t3 t4 t5
      have hA : Below w.heap.size w (wr.alloc (.cells #[.int .i64 kd, .int .u32 cl, .int .u32 ck, .int .u32 st, .int .u64 rf, .int .i32 ch] 43)) := hB.alloc hB.size _
      have hAW : Below W.heap.size W (wr.alloc (.cells #[.int .i64 kd, .int .u32 cl, .int .u32 ck, .int .u32 st, .int .u64 rf, .int .i32 ch] 43)) := hbl.alloc hbl.size _
      have hi6 : (i : Int) ≤ 6 := by omega
      have Hok : Hid (opsOk k lo hi (-1) os = _) := hok
      have HE : Hid (Sents w ∧ Tens w ∧ OpsAt w g off os) := ⟨hS, hT10, hO⟩
      have HP : Hid (0 < i → ∃ o', os[i - 1]? = some o' ∧ preK os i = o'.key) := hpk
      have hwl : w.heap.size < W.heap.size := by omega
      have hit : ∀ W', Below w.heap.size w W' → Calls Tryz.prog 278 #[.int .i64 i] W' fun e w' => (∃ s, e = .returned (.string s)) ∧ Below W'.heap.size W' w' := fun W' hb => itoa_any i (by omega) (by omega) W' (HE.out.2.1.below hb)
      have Hit : Hid (∀ W', Below w.heap.size w W' → Calls Tryz.prog 278 #[.int .i64 i] W' fun e w' => (∃ s, e = .returned (.string s)) ∧ Below W'.heap.size W' w') := hit
      have hro : ∀ W', Below w.heap.size w W' → Calls Tryz.prog 92 #[.agg #[.int .i64 kd, .int .u32 cl, .int .u32 ck, .int .u32 st, .int .u64 rf, .int .i32 ch]] W' fun e w' => ∃ x, e = .returned x ∧ (okOp kd cl ck st rf ch = true → x = .nilIface) ∧ (okOp kd cl ck st rf ch = false → Err x) ∧ Below W'.heap.size W' w' := fun W' hb => rightOp_any kd cl ck st rf ch t1 t2 t4.1 t4.2 W' (HE.out.1.below hb)
      have Hro : Hid (∀ W', Below w.heap.size w W' → Calls Tryz.prog 92 #[.agg #[.int .i64 kd, .int .u32 cl, .int .u32 ck, .int .u32 st, .int .u64 rf, .int .i32 ch]] W' fun e w' => ∃ x, e = .returned x ∧ (okOp kd cl ck st rf ch = true → x = .nilIface) ∧ (okOp kd cl ck st rf ch = false → Err x) ∧ Below W'.heap.size W' w') := hro
      have eR : Opn.ok ⟨kd, cl, ck, st, rf, ch⟩ = okOp kd cl ck st rf ch := rfl
      rw [eR] at hok
      have eK : Opn.key ⟨kd, cl, ck, st, rf, ch⟩ = cl * 1048576 + ck := rfl
      rw [eK] at hok
      clear hS hT10 hO hpk hit hro Hok eR eK hO1
      generalize okOp kd cl ck st rf ch = R at *
      have Hok : Hid (opsOk k lo hi (-1) os = _) := hok
      clear hok
      cases R
      · go_wp2_with (first
          | (go_at_call 278; refine (Hit.out _ hA).mono ?_; rintro e w1 ⟨⟨s, rfl⟩, hb1⟩; obtain ⟨y0, y1, y2, y3, y4, y5⟩ := op6N hb1 rfl; have hA1 := hA.trans (hb1.mono hA.size))
          | (go_at_call 92; refine (Hro.out _ hA1).mono ?_; rintro e w2 ⟨x, rfl, -, hx, hb2⟩; obtain ⟨t, y, rfl⟩ := hx (by trivial); have hA2 := hA1.trans (hb2.mono hA1.size))
          | (go_at_call 120; refine (in_err _ _ ⟨_, _, rfl⟩ _).mono ?_; rintro e w3 ⟨⟨x, rfl, hx3⟩, hb3⟩))
        go_ret
        exact ⟨_, rfl, fun h => absurd (Hok.out.symm.trans h) (by simp), fun _ => hx3, hA2.trans (hb3.mono hA2.size)⟩
      · rcases Classical.em (k = 5) with k5 | k5
        · subst k5
          have Hhr : Hid (∀ W, Calls Tryz.prog 182 #[.int .i64 5] W fun e w' => e = .returned (.bool false) ∧ w' = W) := hasRange_any 5
          have HN : Hid (preK os i < cl * 1048576 + ck → opsOk 5 lo hi (-1) os = opsOk 5 lo hi (preK os (i + 1)) (os.drop (i + 1))) := by
            intro h; rw [Hok.out, decide_eq_true h]; simp
          by_cases hi0 : i = 0
          · have l0 : ¬ (0 : Int) < (i : Int) := by omega
            have Hi0 : Hid (i = 0) := hi0
            clear hi0
            go_wp2_with (first
              | (go_at_call 278; refine (Hit.out _ hA).mono ?_; rintro e w1 ⟨⟨s, rfl⟩, hb1⟩; obtain ⟨y0, y1, y2, y3, y4, y5⟩ := op6N hb1 rfl; have hA1 := hA.trans (hb1.mono hA.size))
              | (go_at_call 92; refine (Hro.out _ hA1).mono ?_; rintro e w2 ⟨x, rfl, hx, -, hb2⟩; obtain rfl := hx (by trivial); have hA2 := hA1.trans (hb2.mono hA1.size); obtain ⟨x0, x1, x2, x3, x4, x5⟩ := op6N (hb1.trans (hb2.mono hb1.size)) rfl)
              | (go_at_call 93; refine (pKeyOf_any _ _ _ _ _ _ t1 t2 _).mono ?_; rintro e w3 ⟨rfl, hb3⟩; have hA3 := hA2.trans (hb3.mono hA2.size); have hW3 := hAW.trans ((hb1.trans ((hb2.trans (hb3.mono hb2.size)).mono hb1.size)).mono hAW.size); have z0 := (hW3.cell hwl).trans q0; have z2 := (hW3.cell hwl).trans q2; have z3 := (hW3.cell hwl).trans q3; have z7 := (hW3.cell hwl).trans q7; obtain ⟨⟨bB, tB⟩, -, ⟨bO, tO⟩, -, -, -, -, -, -⟩ := HE.out.1.below hA3)
              | (go_at_call 182; refine (Hhr.out _).mono ?_; rintro e w4 ⟨rfl, rfl⟩)
              | (go_at_call 120; refine (in_err _ _ ⟨_, _, rfl⟩ _).mono ?_; rintro e w5 ⟨⟨x, rfl, hx5⟩, hb5⟩))
            go_roundw
            case rel => exact ⟨i + 1, hlt, by go_num, HN.out (by have := Hi0.out; subst this; show (-1 : Int) < _; have := t1.1; have := t2.1; omega), hW3⟩
            case measure => simp [intOf]; omega
          · have l0 : (0 : Int) < (i : Int) := by omega
            obtain ⟨j, rfl⟩ : ∃ j, i = j + 1 := ⟨i - 1, by omega⟩
            have hj : j < os.length := by omega
            obtain ⟨-, u1, u2, -, -, -⟩ := HT.out os[j] (List.getElem_mem hj)
            obtain ⟨P, hP⟩ : ∃ P, os[j].cl * 1048576 + os[j].ck = P := ⟨_, rfl⟩
            have hpk : preK os (j + 1) = P := by unfold preK; rw [if_neg (by omega), Nat.add_sub_cancel, List.getElem?_eq_getElem hj]; exact hP
            have HPk : Hid (os[j].cl * 1048576 + os[j].ck = P) := hP
            rw [hpk] at Hok HN
            clear hP hpk
            rcases Int.lt_or_le P (cl * 1048576 + ck) with hlt2 | hle2
            · have hlt2' : ¬ cl * 1048576 + ck ≤ P := by omega
              go_wp2_with (first
                | (go_at_call 93; have hq := v0; clear hq; refine (pKeyOf_any _ _ _ _ _ _ u1 u2 _).mono ?_; rw [HPk.out]; rintro e w6 ⟨rfl, hb6⟩; have hA6 := hA3.trans (hb6.mono hA3.size); obtain ⟨⟨bB6, tB6⟩, -, ⟨bO6, tO6⟩, -, -, -, -, -, -⟩ := HE.out.1.below hA6; have hW6 := hW3.trans (hb6.mono hW3.size))
                | (go_at_call 278; refine (Hit.out _ hA).mono ?_; rintro e w1 ⟨⟨s, rfl⟩, hb1⟩; obtain ⟨y0, y1, y2, y3, y4, y5⟩ := op6N hb1 rfl; have hA1 := hA.trans (hb1.mono hA.size))
                | (go_at_call 92; refine (Hro.out _ hA1).mono ?_; rintro e w2 ⟨x, rfl, hx, -, hb2⟩; obtain rfl := hx (by trivial); have hA2 := hA1.trans (hb2.mono hA1.size); obtain ⟨x0, x1, x2, x3, x4, x5⟩ := op6N (hb1.trans (hb2.mono hb1.size)) rfl)
                | (go_at_call 93; refine (pKeyOf_any _ _ _ _ _ _ t1 t2 _).mono ?_; rintro e w3 ⟨rfl, hb3⟩; have hA3 := hA2.trans (hb3.mono hA2.size); have hW3 := hAW.trans ((hb1.trans ((hb2.trans (hb3.mono hb2.size)).mono hb1.size)).mono hAW.size); have z0 := (hW3.cell hwl).trans q0; have z2 := (hW3.cell hwl).trans q2; have z3 := (hW3.cell hwl).trans q3; have z7 := (hW3.cell hwl).trans q7; obtain ⟨⟨bB, tB⟩, -, ⟨bO, tO⟩, -, -, -, -, -, -⟩ := HE.out.1.below hA3; obtain ⟨v0, v1, v2, v3, v4, v5⟩ := (HE.out.2.2.below hA3).cells (i := j) hj)
                | (go_at_call 182; refine (Hhr.out _).mono ?_; rintro e w4 ⟨rfl, rfl⟩)
                | (go_at_call 120; refine (in_err _ _ ⟨_, _, rfl⟩ _).mono ?_; rintro e w5 ⟨⟨x, rfl, hx5⟩, hb5⟩))
              go_roundw
              case rel => exact ⟨j + 1 + 1, hlt, by go_num, HN.out hlt2, hW6⟩
              case measure => simp [intOf]; omega
            · have hle2' : ¬ P < cl * 1048576 + ck := by omega
              go_wp2_with (first
                | (go_at_call 93; have hq := v0; clear hq; refine (pKeyOf_any _ _ _ _ _ _ u1 u2 _).mono ?_; rw [HPk.out]; rintro e w6 ⟨rfl, hb6⟩; have hA6 := hA3.trans (hb6.mono hA3.size); obtain ⟨⟨bB6, tB6⟩, -, ⟨bO6, tO6⟩, -, -, -, -, -, -⟩ := HE.out.1.below hA6; have hW6 := hW3.trans (hb6.mono hW3.size))
                | (go_at_call 278; refine (Hit.out _ hA).mono ?_; rintro e w1 ⟨⟨s, rfl⟩, hb1⟩; obtain ⟨y0, y1, y2, y3, y4, y5⟩ := op6N hb1 rfl; have hA1 := hA.trans (hb1.mono hA.size))
                | (go_at_call 92; refine (Hro.out _ hA1).mono ?_; rintro e w2 ⟨x, rfl, hx, -, hb2⟩; obtain rfl := hx (by trivial); have hA2 := hA1.trans (hb2.mono hA1.size); obtain ⟨x0, x1, x2, x3, x4, x5⟩ := op6N (hb1.trans (hb2.mono hb1.size)) rfl)
                | (go_at_call 93; refine (pKeyOf_any _ _ _ _ _ _ t1 t2 _).mono ?_; rintro e w3 ⟨rfl, hb3⟩; have hA3 := hA2.trans (hb3.mono hA2.size); have hW3 := hAW.trans ((hb1.trans ((hb2.trans (hb3.mono hb2.size)).mono hb1.size)).mono hAW.size); have z0 := (hW3.cell hwl).trans q0; have z2 := (hW3.cell hwl).trans q2; have z3 := (hW3.cell hwl).trans q3; have z7 := (hW3.cell hwl).trans q7; obtain ⟨⟨bB, tB⟩, -, ⟨bO, tO⟩, -, -, -, -, -, -⟩ := HE.out.1.below hA3; obtain ⟨v0, v1, v2, v3, v4, v5⟩ := (HE.out.2.2.below hA3).cells (i := j) hj)
                | (go_at_call 182; refine (Hhr.out _).mono ?_; rintro e w4 ⟨rfl, rfl⟩)
                | (go_at_call 120; refine (in_err _ _ ⟨_, _, rfl⟩ _).mono ?_; rintro e w5 ⟨⟨x, rfl, hx5⟩, hb5⟩))
              go_ret
              exact ⟨_, rfl, fun h => absurd (Hok.out.symm.trans h) (by first | (simp [*]; done) | (simp [*]; intros; omega)), fun _ => hx5, hA6.trans (hb5.mono hA6.size)⟩
        · skip
          have Hhr : Hid (∀ W, Calls Tryz.prog 182 #[.int .i64 k] W fun e w' => e = .returned (.bool true) ∧ w' = W) := by
            have := hasRange_any k
            rw [decide_eq_true hk.1, decide_eq_true (show k ≤ 4 by omega)] at this
            exact this
          rcases Int.lt_or_le (cl * 1048576 + ck) lo with hlo | hlo
          · have hlo' : ¬ lo ≤ cl * 1048576 + ck := by omega
            go_wp2_with (first
              | (go_at_call 278; refine (Hit.out _ hA).mono ?_; rintro e w1 ⟨⟨s, rfl⟩, hb1⟩; obtain ⟨y0, y1, y2, y3, y4, y5⟩ := op6N hb1 rfl; have hA1 := hA.trans (hb1.mono hA.size))
              | (go_at_call 92; refine (Hro.out _ hA1).mono ?_; rintro e w2 ⟨x, rfl, hx, -, hb2⟩; obtain rfl := hx (by trivial); have hA2 := hA1.trans (hb2.mono hA1.size); obtain ⟨x0, x1, x2, x3, x4, x5⟩ := op6N (hb1.trans (hb2.mono hb1.size)) rfl)
              | (go_at_call 93; refine (pKeyOf_any _ _ _ _ _ _ t1 t2 _).mono ?_; rintro e w3 ⟨rfl, hb3⟩; have hA3 := hA2.trans (hb3.mono hA2.size); have hW3 := hAW.trans ((hb1.trans ((hb2.trans (hb3.mono hb2.size)).mono hb1.size)).mono hAW.size); have z0 := (hW3.cell hwl).trans q0; have z2 := (hW3.cell hwl).trans q2; have z3 := (hW3.cell hwl).trans q3; have z7 := (hW3.cell hwl).trans q7; obtain ⟨⟨bB, tB⟩, -, ⟨bO, tO⟩, -, -, -, -, -, -⟩ := HE.out.1.below hA3)
              | (go_at_call 182; refine (Hhr.out _).mono ?_; rintro e w4 ⟨rfl, rfl⟩)
              | (go_at_call 120; refine (in_err _ _ ⟨_, _, rfl⟩ _).mono ?_; rintro e w5 ⟨⟨x, rfl, hx5⟩, hb5⟩))
            go_ret
            exact ⟨_, rfl, fun h => absurd (Hok.out.symm.trans h) (by first | (simp [*]; done) | (simp [*]; intros; omega)), fun _ => hx5, hA3.trans (hb5.mono hA3.size)⟩
          · have hlo' : ¬ cl * 1048576 + ck < lo := by omega
            rcases Int.lt_or_le (cl * 1048576 + ck) hi with hhi | hhi
            · have hhi' : ¬ hi ≤ cl * 1048576 + ck := by omega
              have HN : Hid (preK os i < cl * 1048576 + ck → opsOk k lo hi (-1) os = opsOk k lo hi (preK os (i + 1)) (os.drop (i + 1))) := by
                intro h; rw [Hok.out, decide_eq_true h, decide_eq_true hlo, decide_eq_true hhi]; simp
              by_cases hi0 : i = 0
              · have l0 : ¬ (0 : Int) < (i : Int) := by omega
                have Hi0 : Hid (i = 0) := hi0
                clear hi0
                go_wp2_with (first
                  | (go_at_call 278; refine (Hit.out _ hA).mono ?_; rintro e w1 ⟨⟨s, rfl⟩, hb1⟩; obtain ⟨y0, y1, y2, y3, y4, y5⟩ := op6N hb1 rfl; have hA1 := hA.trans (hb1.mono hA.size))
                  | (go_at_call 92; refine (Hro.out _ hA1).mono ?_; rintro e w2 ⟨x, rfl, hx, -, hb2⟩; obtain rfl := hx (by trivial); have hA2 := hA1.trans (hb2.mono hA1.size); obtain ⟨x0, x1, x2, x3, x4, x5⟩ := op6N (hb1.trans (hb2.mono hb1.size)) rfl)
                  | (go_at_call 93; refine (pKeyOf_any _ _ _ _ _ _ t1 t2 _).mono ?_; rintro e w3 ⟨rfl, hb3⟩; have hA3 := hA2.trans (hb3.mono hA2.size); have hW3 := hAW.trans ((hb1.trans ((hb2.trans (hb3.mono hb2.size)).mono hb1.size)).mono hAW.size); have z0 := (hW3.cell hwl).trans q0; have z2 := (hW3.cell hwl).trans q2; have z3 := (hW3.cell hwl).trans q3; have z7 := (hW3.cell hwl).trans q7; obtain ⟨⟨bB, tB⟩, -, ⟨bO, tO⟩, -, -, -, -, -, -⟩ := HE.out.1.below hA3)
                  | (go_at_call 182; refine (Hhr.out _).mono ?_; rintro e w4 ⟨rfl, rfl⟩)
                  | (go_at_call 120; refine (in_err _ _ ⟨_, _, rfl⟩ _).mono ?_; rintro e w5 ⟨⟨x, rfl, hx5⟩, hb5⟩))
                go_roundw
                case rel => exact ⟨i + 1, hlt, by go_num, HN.out (by have := Hi0.out; subst this; show (-1 : Int) < _; have := t1.1; have := t2.1; omega), hW3⟩
                case measure => simp [intOf]; omega
              · have l0 : (0 : Int) < (i : Int) := by omega
                obtain ⟨j, rfl⟩ : ∃ j, i = j + 1 := ⟨i - 1, by omega⟩
                have hj : j < os.length := by omega
                obtain ⟨-, u1, u2, -, -, -⟩ := HT.out os[j] (List.getElem_mem hj)
                obtain ⟨P, hP⟩ : ∃ P, os[j].cl * 1048576 + os[j].ck = P := ⟨_, rfl⟩
                have hpk : preK os (j + 1) = P := by unfold preK; rw [if_neg (by omega), Nat.add_sub_cancel, List.getElem?_eq_getElem hj]; exact hP
                have HPk : Hid (os[j].cl * 1048576 + os[j].ck = P) := hP
                rw [hpk] at Hok HN
                clear hP hpk
                rcases Int.lt_or_le P (cl * 1048576 + ck) with hlt2 | hle2
                · have hlt2' : ¬ cl * 1048576 + ck ≤ P := by omega
                  go_wp2_with (first
                    | (go_at_call 93; have hq := v0; clear hq; refine (pKeyOf_any _ _ _ _ _ _ u1 u2 _).mono ?_; rw [HPk.out]; rintro e w6 ⟨rfl, hb6⟩; have hA6 := hA3.trans (hb6.mono hA3.size); obtain ⟨⟨bB6, tB6⟩, -, ⟨bO6, tO6⟩, -, -, -, -, -, -⟩ := HE.out.1.below hA6; have hW6 := hW3.trans (hb6.mono hW3.size))
                    | (go_at_call 278; refine (Hit.out _ hA).mono ?_; rintro e w1 ⟨⟨s, rfl⟩, hb1⟩; obtain ⟨y0, y1, y2, y3, y4, y5⟩ := op6N hb1 rfl; have hA1 := hA.trans (hb1.mono hA.size))
                    | (go_at_call 92; refine (Hro.out _ hA1).mono ?_; rintro e w2 ⟨x, rfl, hx, -, hb2⟩; obtain rfl := hx (by trivial); have hA2 := hA1.trans (hb2.mono hA1.size); obtain ⟨x0, x1, x2, x3, x4, x5⟩ := op6N (hb1.trans (hb2.mono hb1.size)) rfl)
                    | (go_at_call 93; refine (pKeyOf_any _ _ _ _ _ _ t1 t2 _).mono ?_; rintro e w3 ⟨rfl, hb3⟩; have hA3 := hA2.trans (hb3.mono hA2.size); have hW3 := hAW.trans ((hb1.trans ((hb2.trans (hb3.mono hb2.size)).mono hb1.size)).mono hAW.size); have z0 := (hW3.cell hwl).trans q0; have z2 := (hW3.cell hwl).trans q2; have z3 := (hW3.cell hwl).trans q3; have z7 := (hW3.cell hwl).trans q7; obtain ⟨⟨bB, tB⟩, -, ⟨bO, tO⟩, -, -, -, -, -, -⟩ := HE.out.1.below hA3; obtain ⟨v0, v1, v2, v3, v4, v5⟩ := (HE.out.2.2.below hA3).cells (i := j) hj)
                    | (go_at_call 182; refine (Hhr.out _).mono ?_; rintro e w4 ⟨rfl, rfl⟩)
                    | (go_at_call 120; refine (in_err _ _ ⟨_, _, rfl⟩ _).mono ?_; rintro e w5 ⟨⟨x, rfl, hx5⟩, hb5⟩))
                  go_roundw
                  case rel => exact ⟨j + 1 + 1, hlt, by go_num, HN.out hlt2, hW6⟩
                  case measure => simp [intOf]; omega
                · have hle2' : ¬ P < cl * 1048576 + ck := by omega
                  go_wp2_with (first
                    | (go_at_call 93; have hq := v0; clear hq; refine (pKeyOf_any _ _ _ _ _ _ u1 u2 _).mono ?_; rw [HPk.out]; rintro e w6 ⟨rfl, hb6⟩; have hA6 := hA3.trans (hb6.mono hA3.size); obtain ⟨⟨bB6, tB6⟩, -, ⟨bO6, tO6⟩, -, -, -, -, -, -⟩ := HE.out.1.below hA6; have hW6 := hW3.trans (hb6.mono hW3.size))
                    | (go_at_call 278; refine (Hit.out _ hA).mono ?_; rintro e w1 ⟨⟨s, rfl⟩, hb1⟩; obtain ⟨y0, y1, y2, y3, y4, y5⟩ := op6N hb1 rfl; have hA1 := hA.trans (hb1.mono hA.size))
                    | (go_at_call 92; refine (Hro.out _ hA1).mono ?_; rintro e w2 ⟨x, rfl, hx, -, hb2⟩; obtain rfl := hx (by trivial); have hA2 := hA1.trans (hb2.mono hA1.size); obtain ⟨x0, x1, x2, x3, x4, x5⟩ := op6N (hb1.trans (hb2.mono hb1.size)) rfl)
                    | (go_at_call 93; refine (pKeyOf_any _ _ _ _ _ _ t1 t2 _).mono ?_; rintro e w3 ⟨rfl, hb3⟩; have hA3 := hA2.trans (hb3.mono hA2.size); have hW3 := hAW.trans ((hb1.trans ((hb2.trans (hb3.mono hb2.size)).mono hb1.size)).mono hAW.size); have z0 := (hW3.cell hwl).trans q0; have z2 := (hW3.cell hwl).trans q2; have z3 := (hW3.cell hwl).trans q3; have z7 := (hW3.cell hwl).trans q7; obtain ⟨⟨bB, tB⟩, -, ⟨bO, tO⟩, -, -, -, -, -, -⟩ := HE.out.1.below hA3; obtain ⟨v0, v1, v2, v3, v4, v5⟩ := (HE.out.2.2.below hA3).cells (i := j) hj)
                    | (go_at_call 182; refine (Hhr.out _).mono ?_; rintro e w4 ⟨rfl, rfl⟩)
                    | (go_at_call 120; refine (in_err _ _ ⟨_, _, rfl⟩ _).mono ?_; rintro e w5 ⟨⟨x, rfl, hx5⟩, hb5⟩))
                  go_ret
                  exact ⟨_, rfl, fun h => absurd (Hok.out.symm.trans h) (by first | (simp [*]; done) | (simp [*]; intros; omega)), fun _ => hx5, hA6.trans (hb5.mono hA6.size)⟩
            · have hhi' : ¬ cl * 1048576 + ck < hi := by omega
              go_wp2_with (first
                | (go_at_call 278; refine (Hit.out _ hA).mono ?_; rintro e w1 ⟨⟨s, rfl⟩, hb1⟩; obtain ⟨y0, y1, y2, y3, y4, y5⟩ := op6N hb1 rfl; have hA1 := hA.trans (hb1.mono hA.size))
                | (go_at_call 92; refine (Hro.out _ hA1).mono ?_; rintro e w2 ⟨x, rfl, hx, -, hb2⟩; obtain rfl := hx (by trivial); have hA2 := hA1.trans (hb2.mono hA1.size); obtain ⟨x0, x1, x2, x3, x4, x5⟩ := op6N (hb1.trans (hb2.mono hb1.size)) rfl)
                | (go_at_call 93; refine (pKeyOf_any _ _ _ _ _ _ t1 t2 _).mono ?_; rintro e w3 ⟨rfl, hb3⟩; have hA3 := hA2.trans (hb3.mono hA2.size); have hW3 := hAW.trans ((hb1.trans ((hb2.trans (hb3.mono hb2.size)).mono hb1.size)).mono hAW.size); have z0 := (hW3.cell hwl).trans q0; have z2 := (hW3.cell hwl).trans q2; have z3 := (hW3.cell hwl).trans q3; have z7 := (hW3.cell hwl).trans q7; obtain ⟨⟨bB, tB⟩, -, ⟨bO, tO⟩, -, -, -, -, -, -⟩ := HE.out.1.below hA3)
                | (go_at_call 182; refine (Hhr.out _).mono ?_; rintro e w4 ⟨rfl, rfl⟩)
                | (go_at_call 120; refine (in_err _ _ ⟨_, _, rfl⟩ _).mono ?_; rintro e w5 ⟨⟨x, rfl, hx5⟩, hb5⟩))
              go_ret
              exact ⟨_, rfl, fun h => absurd (Hok.out.symm.trans h) (by first | (simp [*]; done) | (simp [*]; intros; omega)), fun _ => hx5, hA3.trans (hb5.mono hA3.size)⟩
    · obtain rfl : i = os.length := by omega
      go_wp2
      go_ret
      exact ⟨_, rfl, fun _ => rfl, fun h => absurd (hok.symm.trans h) (by rw [List.drop_length, opsOk]; decide), hB⟩
end Go.Proofs.YtgccjefbedpmpaaGreatDoor
namespace Go.Proofs.YtgccjefbedpmpaaGreatDoor
open Go.RowKit
/-- Is a range right? -/
def rngOk (k lo hi : Int) : Bool := decide (k = 5 → lo = 0 ∧ hi = 0) && decide (k ≠ 5 → lo < hi ∧ hi ≤ 1099511627776)
set_option maxRecDepth 100000 in
set_option maxHeartbeats 2000000 in
theorem rangeFault_any (k ss lo hi d0 d1 d2 : Int) (v : Value) (hk : 1 ≤ k ∧ k ≤ 5) (w : World) (hS : Sents w) :
    Calls Tryz.prog 242 #[.agg #[.int .i64 k, .int .u32 ss, .int .u64 lo, .int .u64 hi, .int .u8 d0, .int .u8 d1, .int .u8 d2, v]] w fun e w' => ∃ x, e = .returned x ∧ (rngOk k lo hi = true → x = .nilIface) ∧ (rngOk k lo hi = false → Err x) ∧ Below w.heap.size w w' := by
  have hz : Below w.heap.size w (w.alloc (.cells #[.int .i64 k, .int .u32 ss, .int .u64 lo, .int .u64 hi, .int .u8 d0, .int .u8 d1, .int .u8 d2, v] 58)) := (Below.refl _ _).alloc (Nat.le_refl _) _
  obtain ⟨⟨aB, sB⟩, -, ⟨aO, sO⟩, ⟨aE, sE⟩, -, -, -, -, -⟩ := hS.below hz
  by_cases k5 : k = 5
  · subst k5
    have hr : Hid (∀ W, Calls Tryz.prog 182 #[.int .i64 5] W fun e w' => e = .returned (.bool false) ∧ w' = W) := hasRange_any 5
    by_cases l0 : lo = 0
    · subst l0
      by_cases h0 : hi = 0
      · subst h0
        go_enter Tryz.func242, Tryz.ntmps242
        go_wp2_with (go_at_call 182; refine (hr.out _).mono ?_; rintro e w1 ⟨rfl, rfl⟩)
        go_ret
        exact ⟨_, rfl, fun _ => rfl, fun h => absurd h (by simp [rngOk]), hz⟩
      · have h0' : (hi != 0) = true := by simpa using h0
        go_enter Tryz.func242, Tryz.ntmps242
        go_wp2_with (go_at_call 182; refine (hr.out _).mono ?_; rintro e w1 ⟨rfl, rfl⟩)
        go_ret
        exact ⟨_, rfl, fun h => absurd h (by simp [rngOk, h0]), fun _ => ⟨_, _, rfl⟩, hz⟩
    · have l0' : (lo != 0) = true := by simpa using l0
      go_enter Tryz.func242, Tryz.ntmps242
      go_wp2_with (go_at_call 182; refine (hr.out _).mono ?_; rintro e w1 ⟨rfl, rfl⟩)
      go_ret
      exact ⟨_, rfl, fun h => absurd h (by simp [rngOk, l0]), fun _ => ⟨_, _, rfl⟩, hz⟩
  · have hr : Hid (∀ W, Calls Tryz.prog 182 #[.int .i64 k] W fun e w' => e = .returned (.bool true) ∧ w' = W) := by
      have := hasRange_any k
      rw [decide_eq_true hk.1, decide_eq_true (show k ≤ 4 by omega)] at this
      exact this
    have e0 : rngOk k lo hi = decide (lo < hi ∧ hi ≤ 1099511627776) := by
      unfold rngOk
      rw [decide_eq_true (fun h => absurd h k5), Bool.true_and]
      simp [k5]
    have E0 : Hid (rngOk k lo hi = decide (lo < hi ∧ hi ≤ 1099511627776)) := e0
    clear e0
    rcases Int.lt_or_le 1099511627776 hi with h1 | h1
    · go_enter Tryz.func242, Tryz.ntmps242
      go_wp2_with (go_at_call 182; refine (hr.out _).mono ?_; rintro e w1 ⟨rfl, rfl⟩)
      go_ret
      exact ⟨_, rfl, fun h => absurd (E0.out.symm.trans h) (by simp; omega), fun _ => ⟨_, _, rfl⟩, hz⟩
    · have h1' : ¬ 1099511627776 < hi := by omega
      rcases Int.lt_or_le lo hi with h2 | h2
      · have h2' : ¬ hi ≤ lo := by omega
        go_enter Tryz.func242, Tryz.ntmps242
        go_wp2_with (go_at_call 182; refine (hr.out _).mono ?_; rintro e w1 ⟨rfl, rfl⟩)
        go_ret
        exact ⟨_, rfl, fun _ => rfl, fun h => absurd (E0.out.symm.trans h) (by simp; omega), hz⟩
      · go_enter Tryz.func242, Tryz.ntmps242
        go_wp2_with (go_at_call 182; refine (hr.out _).mono ?_; rintro e w1 ⟨rfl, rfl⟩)
        go_ret
        exact ⟨_, rfl, fun h => absurd (E0.out.symm.trans h) (by simp; omega), fun _ => ⟨_, _, rfl⟩, hz⟩
end Go.Proofs.YtgccjefbedpmpaaGreatDoor

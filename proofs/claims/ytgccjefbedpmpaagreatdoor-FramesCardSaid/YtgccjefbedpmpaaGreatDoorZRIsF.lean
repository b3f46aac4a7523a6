import Derived.Test.YtgccjefbedpmpaaGreatDoorZFrmF
import Derived.Test.YtgccjefbedpmpaaGreatDoorGRSum
import Derived.Test.YtgccjefbedpmpaaGreatDoorZEqD
namespace Go.Proofs.YtgccjefbedpmpaaGreatDoor
open Go.RowKit
set_option maxRecDepth 100000 in
set_option maxHeartbeats 8000000 in
theorem rIsFrame_any (k ss lo hi d0 d1 d2 : Int) (a : Option Addr) (cap : Nat) (os : List Opn) (hT : ∀ o ∈ os, OpT o) (hn : os.length ≤ 9223372036854775807) (w : World) (hO : OpsIs w a os) :
    Calls Tryz.prog 72 #[.agg #[.int .i64 k, .int .u32 ss, .int .u64 lo, .int .u64 hi, .int .u8 d0, .int .u8 d1, .int .u8 d2, .slice a os.length cap]] w fun e w' => e = .returned (.bool (okFrm ⟨k, ss, lo, hi, d0, d1, d2, os⟩)) ∧ Below w.heap.size w w' := by
  have hz : Below w.heap.size w (w.alloc (.cells #[.int .i64 k, .int .u32 ss, .int .u64 lo, .int .u64 hi, .int .u8 d0, .int .u8 d1, .int .u8 d2, .slice a os.length cap] 58)) := (Below.refl _ _).alloc (Nat.le_refl _) _
  have HE : Hid (okFrm ⟨k, ss, lo, hi, d0, d1, d2, os⟩ = _) := okFrm_eq _
  have HST : Hid (∀ i (h : i < os.length), opsOk k lo hi (preK os i) (os.drop i) = _) := fun i h => opsOk_step k lo hi os h
  have HO : Hid (OpsIs w a os ∧ ∀ o ∈ os, OpT o) := ⟨hO, hT⟩
  have HR0 : ∀ b : Bool, okFrm ⟨k, ss, lo, hi, d0, d1, d2, os⟩ = b → ∀ W, Below w.heap.size w W → (Ending.returned (.bool b) = .returned (.bool (okFrm ⟨k, ss, lo, hi, d0, d1, d2, os⟩)) ∧ Below w.heap.size w W) := fun b hb W hW => ⟨by rw [hb], hW⟩
  clear hT hO
  by_cases k1 : k = 1
  · subst k1
    by_cases n0 : os.length = 0
    · have n0' : ((os.length : Int) != 0) = false := by rw [n0]; rfl
      have N0 : Hid (os.length = 0) := n0
      clear n0
      rcases Int.lt_or_le ss 1 with s1 | s1
      · have s1' : ¬ 1 ≤ ss := by omega
        go_enter Tryz.func72, Tryz.ntmps72
        go_wp2_with fail
        go_ret
        exact HR0 false (by rw [HE.out]; first | (simp [nOk, rngOk, N0.out, *]; done) | (simp [nOk, rngOk, *]; done) | (simp [nOk, rngOk, *]; omega) | (simp [nOk, rngOk, *]; intros; omega)) _ hz
      · have s1' : ¬ ss < 1 := by omega
        rcases Int.lt_or_le 1073741823 ss with s2 | s2
        · have s2' : ¬ ss ≤ 1073741823 := by omega
          go_enter Tryz.func72, Tryz.ntmps72
          go_wp2_with fail
          go_ret
          exact HR0 false (by rw [HE.out]; first | (simp [nOk, rngOk, N0.out, *]; done) | (simp [nOk, rngOk, *]; done) | (simp [nOk, rngOk, *]; omega) | (simp [nOk, rngOk, *]; intros; omega)) _ hz
        · have s2' : ¬ 1073741823 < ss := by omega
          rcases Int.lt_or_le lo hi with r1 | r1
          · have r1' : ¬ hi ≤ lo := by omega
            rcases Int.lt_or_le 1099511627776 hi with r2 | r2
            · have r2' : ¬ hi ≤ 1099511627776 := by omega
              go_enter Tryz.func72, Tryz.ntmps72
              go_wp2_with fail
              go_ret
              exact HR0 false (by rw [HE.out]; first | (simp [nOk, rngOk, N0.out, *]; done) | (simp [nOk, rngOk, *]; done) | (simp [nOk, rngOk, *]; omega) | (simp [nOk, rngOk, *]; intros; omega)) _ hz
            · have r2' : ¬ 1099511627776 < hi := by omega
              have hfr : okFrm ⟨1, ss, lo, hi, d0, d1, d2, os⟩ = opsOk 1 lo hi (-1) os := by rw [HE.out]; first | (simp [nOk, rngOk, N0.out, *]; done) | (simp [nOk, rngOk, *]; done) | (simp [nOk, rngOk, *]; omega)
              have Hfr : Hid (okFrm ⟨1, ss, lo, hi, d0, d1, d2, os⟩ = opsOk 1 lo hi (-1) os) := hfr
              clear hfr
              have hzs : (w.alloc (.cells #[.int .i64 1, .int .u32 ss, .int .u64 lo, .int .u64 hi, .int .u8 d0, .int .u8 d1, .int .u8 d2, .slice a os.length cap] 58)).heap.size = w.heap.size + 1 := by simp
              go_enter Tryz.func72, Tryz.ntmps72
              go_wp2_with fail
              go_loopw [4] (fun iv wr => ∃ i : Nat, i ≤ os.length ∧ iv = .int .i64 i ∧ opsOk 1 lo hi (-1) os = opsOk 1 lo hi (preK os i) (os.drop i) ∧ Below (w.heap.size + 1) (w.alloc (.cells #[.int .i64 1, .int .u32 ss, .int .u64 lo, .int .u64 hi, .int .u8 d0, .int .u8 d1, .int .u8 d2, .slice a os.length cap] 58)) wr) (fun iv _ => os.length - (intOf iv).toNat)
              case atStart => exact ⟨0, Nat.zero_le _, rfl, rfl, Below.refl _ _⟩
              case round =>
                obtain ⟨i, hi', rfl, hok, hbl⟩ := hrel
                have hBw : Below w.heap.size w wr := hz.trans (hbl.mono (Nat.le_succ _))
                have hBr : w.heap.size + 1 ≤ wr.heap.size := Nat.le_trans (by simp) hbl.size
                obtain ⟨t0, t1, t2, t3, t4, t5, t6, t7⟩ := fr8N (hzs ▸ hbl) rfl
                by_cases hlt : i < os.length
                · exact absurd hlt (by rw [N0.out]; omega)
                · obtain rfl : i = os.length := by omega
                  go_wp2_with fail
                  go_ret
                  exact HR0 true (by rw [Hfr.out, hok, List.drop_length, opsOk]) _ hBw
          · have r1' : ¬ lo < hi := by omega
            go_enter Tryz.func72, Tryz.ntmps72
            go_wp2_with fail
            go_ret
            exact HR0 false (by rw [HE.out]; first | (simp [nOk, rngOk, N0.out, *]; done) | (simp [nOk, rngOk, *]; done) | (simp [nOk, rngOk, *]; omega) | (simp [nOk, rngOk, *]; intros; omega)) _ hz
    · have n0' : ((os.length : Int) != 0) = true := by simpa using n0
      go_enter Tryz.func72, Tryz.ntmps72
      go_wp2_with fail
      go_ret
      exact HR0 false (by rw [HE.out]; first | (simp [nOk, rngOk, N0.out, *]; done) | (simp [nOk, rngOk, *]; done) | (simp [nOk, rngOk, *]; omega) | (simp [nOk, rngOk, *]; intros; omega)) _ hz
  · by_cases k2 : k = 2
    · subst k2
      by_cases n0 : os.length = 0
      · have n0' : ((os.length : Int) != 0) = false := by rw [n0]; rfl
        have N0 : Hid (os.length = 0) := n0
        clear n0
        rcases Int.lt_or_le ss 1 with s1 | s1
        · have s1' : ¬ 1 ≤ ss := by omega
          go_enter Tryz.func72, Tryz.ntmps72
          go_wp2_with fail
          go_ret
          exact HR0 false (by rw [HE.out]; first | (simp [nOk, rngOk, N0.out, *]; done) | (simp [nOk, rngOk, *]; done) | (simp [nOk, rngOk, *]; omega) | (simp [nOk, rngOk, *]; intros; omega)) _ hz
        · have s1' : ¬ ss < 1 := by omega
          rcases Int.lt_or_le 1073741823 ss with s2 | s2
          · have s2' : ¬ ss ≤ 1073741823 := by omega
            go_enter Tryz.func72, Tryz.ntmps72
            go_wp2_with fail
            go_ret
            exact HR0 false (by rw [HE.out]; first | (simp [nOk, rngOk, N0.out, *]; done) | (simp [nOk, rngOk, *]; done) | (simp [nOk, rngOk, *]; omega) | (simp [nOk, rngOk, *]; intros; omega)) _ hz
          · have s2' : ¬ 1073741823 < ss := by omega
            have hD := eqDigG
            by_cases zd0 : d0 = 0
            · subst zd0
              by_cases zd1 : d1 = 0
              · subst zd1
                by_cases zd2 : d2 = 0
                · subst zd2
                  rcases Int.lt_or_le lo hi with r1 | r1
                  · have r1' : ¬ hi ≤ lo := by omega
                    rcases Int.lt_or_le 1099511627776 hi with r2 | r2
                    · have r2' : ¬ hi ≤ 1099511627776 := by omega
                      go_enter Tryz.func72, Tryz.ntmps72
                      go_wp2_with fail
                      go_ret
                      exact HR0 false (by rw [HE.out]; first | (simp [nOk, rngOk, N0.out, *]; done) | (simp [nOk, rngOk, *]; done) | (simp [nOk, rngOk, *]; omega) | (simp [nOk, rngOk, *]; intros; omega)) _ hz
                    · have r2' : ¬ 1099511627776 < hi := by omega
                      have hfr : okFrm ⟨2, ss, lo, hi, 0, 0, 0, os⟩ = opsOk 2 lo hi (-1) os := by rw [HE.out]; first | (simp [nOk, rngOk, N0.out, *]; done) | (simp [nOk, rngOk, *]; done) | (simp [nOk, rngOk, *]; omega)
                      have Hfr : Hid (okFrm ⟨2, ss, lo, hi, 0, 0, 0, os⟩ = opsOk 2 lo hi (-1) os) := hfr
                      clear hfr
                      have hzs : (w.alloc (.cells #[.int .i64 2, .int .u32 ss, .int .u64 lo, .int .u64 hi, .int .u8 0, .int .u8 0, .int .u8 0, .slice a os.length cap] 58)).heap.size = w.heap.size + 1 := by simp
                      go_enter Tryz.func72, Tryz.ntmps72
                      go_wp2_with fail
                      go_loopw [4] (fun iv wr => ∃ i : Nat, i ≤ os.length ∧ iv = .int .i64 i ∧ opsOk 2 lo hi (-1) os = opsOk 2 lo hi (preK os i) (os.drop i) ∧ Below (w.heap.size + 1) (w.alloc (.cells #[.int .i64 2, .int .u32 ss, .int .u64 lo, .int .u64 hi, .int .u8 0, .int .u8 0, .int .u8 0, .slice a os.length cap] 58)) wr) (fun iv _ => os.length - (intOf iv).toNat)
                      case atStart => exact ⟨0, Nat.zero_le _, rfl, rfl, Below.refl _ _⟩
                      case round =>
                        obtain ⟨i, hi', rfl, hok, hbl⟩ := hrel
                        have hBw : Below w.heap.size w wr := hz.trans (hbl.mono (Nat.le_succ _))
                        have hBr : w.heap.size + 1 ≤ wr.heap.size := Nat.le_trans (by simp) hbl.size
                        obtain ⟨t0, t1, t2, t3, t4, t5, t6, t7⟩ := fr8N (hzs ▸ hbl) rfl
                        by_cases hlt : i < os.length
                        · exact absurd hlt (by rw [N0.out]; omega)
                        · obtain rfl : i = os.length := by omega
                          go_wp2_with fail
                          go_ret
                          exact HR0 true (by rw [Hfr.out, hok, List.drop_length, opsOk]) _ hBw
                  · have r1' : ¬ lo < hi := by omega
                    go_enter Tryz.func72, Tryz.ntmps72
                    go_wp2_with fail
                    go_ret
                    exact HR0 false (by rw [HE.out]; first | (simp [nOk, rngOk, N0.out, *]; done) | (simp [nOk, rngOk, *]; done) | (simp [nOk, rngOk, *]; omega) | (simp [nOk, rngOk, *]; intros; omega)) _ hz
                · have qd2 : (d2 == 0) = false := by simpa using zd2
                  go_enter Tryz.func72, Tryz.ntmps72
                  go_wp2_with fail
                  go_ret
                  exact HR0 false (by rw [HE.out]; first | (simp [nOk, rngOk, N0.out, *]; done) | (simp [nOk, rngOk, *]; done) | (simp [nOk, rngOk, *]; omega) | (simp [nOk, rngOk, *]; intros; omega)) _ hz
              · have qd1 : (d1 == 0) = false := by simpa using zd1
                go_enter Tryz.func72, Tryz.ntmps72
                go_wp2_with fail
                go_ret
                exact HR0 false (by rw [HE.out]; first | (simp [nOk, rngOk, N0.out, *]; done) | (simp [nOk, rngOk, *]; done) | (simp [nOk, rngOk, *]; omega) | (simp [nOk, rngOk, *]; intros; omega)) _ hz
            · have qd0 : (d0 == 0) = false := by simpa using zd0
              go_enter Tryz.func72, Tryz.ntmps72
              go_wp2_with fail
              go_ret
              exact HR0 false (by rw [HE.out]; first | (simp [nOk, rngOk, N0.out, *]; done) | (simp [nOk, rngOk, *]; done) | (simp [nOk, rngOk, *]; omega) | (simp [nOk, rngOk, *]; intros; omega)) _ hz
      · have n0' : ((os.length : Int) != 0) = true := by simpa using n0
        go_enter Tryz.func72, Tryz.ntmps72
        go_wp2_with fail
        go_ret
        exact HR0 false (by rw [HE.out]; first | (simp [nOk, rngOk, N0.out, *]; done) | (simp [nOk, rngOk, *]; done) | (simp [nOk, rngOk, *]; omega) | (simp [nOk, rngOk, *]; intros; omega)) _ hz
    · by_cases k3 : k = 3
      · subst k3
        by_cases n0 : os.length = 1
        · have n0' : ((os.length : Int) != 1) = false := by rw [n0]; rfl
          have N0 : Hid (os.length = 1) := n0
          clear n0
          rcases Int.lt_or_le ss 1 with s1 | s1
          · have s1' : ¬ 1 ≤ ss := by omega
            go_enter Tryz.func72, Tryz.ntmps72
            go_wp2_with fail
            go_ret
            exact HR0 false (by rw [HE.out]; first | (simp [nOk, rngOk, N0.out, *]; done) | (simp [nOk, rngOk, *]; done) | (simp [nOk, rngOk, *]; omega) | (simp [nOk, rngOk, *]; intros; omega)) _ hz
          · have s1' : ¬ ss < 1 := by omega
            rcases Int.lt_or_le 1073741823 ss with s2 | s2
            · have s2' : ¬ ss ≤ 1073741823 := by omega
              go_enter Tryz.func72, Tryz.ntmps72
              go_wp2_with fail
              go_ret
              exact HR0 false (by rw [HE.out]; first | (simp [nOk, rngOk, N0.out, *]; done) | (simp [nOk, rngOk, *]; done) | (simp [nOk, rngOk, *]; omega) | (simp [nOk, rngOk, *]; intros; omega)) _ hz
            · have s2' : ¬ 1073741823 < ss := by omega
              have hD := eqDigG
              by_cases zd0 : d0 = 0
              · subst zd0
                by_cases zd1 : d1 = 0
                · subst zd1
                  by_cases zd2 : d2 = 0
                  · subst zd2
                    rcases Int.lt_or_le lo hi with r1 | r1
                    · have r1' : ¬ hi ≤ lo := by omega
                      rcases Int.lt_or_le 1099511627776 hi with r2 | r2
                      · have r2' : ¬ hi ≤ 1099511627776 := by omega
                        go_enter Tryz.func72, Tryz.ntmps72
                        go_wp2_with fail
                        go_ret
                        exact HR0 false (by rw [HE.out]; first | (simp [nOk, rngOk, N0.out, *]; done) | (simp [nOk, rngOk, *]; done) | (simp [nOk, rngOk, *]; omega) | (simp [nOk, rngOk, *]; intros; omega)) _ hz
                      · have r2' : ¬ 1099511627776 < hi := by omega
                        have hfr : okFrm ⟨3, ss, lo, hi, 0, 0, 0, os⟩ = opsOk 3 lo hi (-1) os := by rw [HE.out]; first | (simp [nOk, rngOk, N0.out, *]; done) | (simp [nOk, rngOk, *]; done) | (simp [nOk, rngOk, *]; omega)
                        have Hfr : Hid (okFrm ⟨3, ss, lo, hi, 0, 0, 0, os⟩ = opsOk 3 lo hi (-1) os) := hfr
                        clear hfr
                        have hzs : (w.alloc (.cells #[.int .i64 3, .int .u32 ss, .int .u64 lo, .int .u64 hi, .int .u8 0, .int .u8 0, .int .u8 0, .slice a os.length cap] 58)).heap.size = w.heap.size + 1 := by simp
                        go_enter Tryz.func72, Tryz.ntmps72
                        go_wp2_with fail
                        go_loopw [4] (fun iv wr => ∃ i : Nat, i ≤ os.length ∧ iv = .int .i64 i ∧ opsOk 3 lo hi (-1) os = opsOk 3 lo hi (preK os i) (os.drop i) ∧ Below (w.heap.size + 1) (w.alloc (.cells #[.int .i64 3, .int .u32 ss, .int .u64 lo, .int .u64 hi, .int .u8 0, .int .u8 0, .int .u8 0, .slice a os.length cap] 58)) wr) (fun iv _ => os.length - (intOf iv).toNat)
                        case atStart => exact ⟨0, Nat.zero_le _, rfl, rfl, Below.refl _ _⟩
                        case round =>
                          obtain ⟨i, hi', rfl, hok, hbl⟩ := hrel
                          have hBw : Below w.heap.size w wr := hz.trans (hbl.mono (Nat.le_succ _))
                          have hBr : w.heap.size + 1 ≤ wr.heap.size := Nat.le_trans (by simp) hbl.size
                          obtain ⟨t0, t1, t2, t3, t4, t5, t6, t7⟩ := fr8N (hzs ▸ hbl) rfl
                          by_cases hlt : i < os.length
                          · skip
                            have li : (i : Int) < (os.length : Int) := by omega
                            obtain ⟨hO, hT⟩ := HO.out
                            have hTi := hT os[i] (List.getElem_mem hlt)
                            rw [HST.out i hlt] at hok
                            rcases hO with h0 | ⟨g, off, rfl, hO⟩
                            · subst h0; cases hlt
                            obtain ⟨c0, c1, c2, c3, c4, c5⟩ := (hO.below hBw).cells hlt
                            have HOA : Hid (OpsAt w g off os) := hO
                            clear hO hT
                            generalize hoi : os[i] = oi at *
                            have Hoi : Hid (os[i] = oi) := hoi
                            clear hoi
                            obtain ⟨kd, cl, ck, st, rf, ch⟩ := oi
                            obtain ⟨u0, u1, u2, u3, u4, u5⟩ := hTi
                            dsimp only at c0 c1 c2 c3 c4 c5 u0 u1 u2 u3 u4 u5
                            have his : Hid (∀ W, Calls Tryz.prog 123 #[.agg #[.int .i64 kd, .int .u32 cl, .int .u32 ck, .int .u32 st, .int .u64 rf, .int .i32 ch]] W fun e w' => e = .returned (.bool (okOp kd cl ck st rf ch)) ∧ Below W.heap.size W w') := isOp_any kd cl ck st rf ch u1 u2 u4.1 u4.2
                            have eR : Opn.ok ⟨kd, cl, ck, st, rf, ch⟩ = okOp kd cl ck st rf ch := rfl
                            rw [eR] at hok
                            have eK : Opn.key ⟨kd, cl, ck, st, rf, ch⟩ = cl * 1048576 + ck := rfl
                            rw [eK] at hok
                            clear eR eK
                            generalize okOp kd cl ck st rf ch = R at *
                            have Hok : Hid (opsOk 3 lo hi (-1) os = _) := hok
                            clear hok
                            cases R
                            · skip
                              go_wp2_with (first
                                | (go_at_call 123; refine (his.out _).mono ?_; rintro e w2 ⟨rfl, hb2⟩; have hb2' := hbl.trans (hb2.mono hBr); have hBw2 := hz.trans (hb2'.mono (Nat.le_succ _)); have hB2 : w.heap.size + 1 ≤ w2.heap.size := Nat.le_trans hBr hb2.size; obtain ⟨p0, p1, p2, p3, p4, p5, p6, p7⟩ := fr8N (hzs ▸ hb2') rfl; obtain ⟨e0, e1, e2, e3, e4, e5⟩ := (HOA.out.below hBw2).cells hlt; rw [Hoi.out] at e0 e1 e2 e3 e4 e5; dsimp only at e0 e1 e2 e3 e4 e5)
                                | (go_at_call 124; refine (keyG _ _ _ _ _ _ u1 u2 _).mono ?_; rintro e w3 ⟨rfl, hb3⟩; have hb3' := hb2'.trans (hb3.mono hB2); have hBw3 := hz.trans (hb3'.mono (Nat.le_succ _)); have hB3 : w.heap.size + 1 ≤ w3.heap.size := Nat.le_trans hB2 hb3.size; obtain ⟨f0, f1, f2, f3, f4, f5, f6, f7⟩ := fr8N (hzs ▸ hb3') rfl))
                              go_ret
                              exact HR0 false (by rw [Hfr.out, Hok.out]; first | (simp [*]; done) | (simp [*]; intros; omega)) _ hBw3
                            · skip
                              rcases Int.lt_or_le (cl * 1048576 + ck) lo with hlo | hlo
                              · have hlo' : ¬ lo ≤ cl * 1048576 + ck := by omega
                                go_wp2_with (first
                                  | (go_at_call 123; refine (his.out _).mono ?_; rintro e w2 ⟨rfl, hb2⟩; have hb2' := hbl.trans (hb2.mono hBr); have hBw2 := hz.trans (hb2'.mono (Nat.le_succ _)); have hB2 : w.heap.size + 1 ≤ w2.heap.size := Nat.le_trans hBr hb2.size; obtain ⟨p0, p1, p2, p3, p4, p5, p6, p7⟩ := fr8N (hzs ▸ hb2') rfl; obtain ⟨e0, e1, e2, e3, e4, e5⟩ := (HOA.out.below hBw2).cells hlt; rw [Hoi.out] at e0 e1 e2 e3 e4 e5; dsimp only at e0 e1 e2 e3 e4 e5)
                                  | (go_at_call 124; refine (keyG _ _ _ _ _ _ u1 u2 _).mono ?_; rintro e w3 ⟨rfl, hb3⟩; have hb3' := hb2'.trans (hb3.mono hB2); have hBw3 := hz.trans (hb3'.mono (Nat.le_succ _)); have hB3 : w.heap.size + 1 ≤ w3.heap.size := Nat.le_trans hB2 hb3.size; obtain ⟨f0, f1, f2, f3, f4, f5, f6, f7⟩ := fr8N (hzs ▸ hb3') rfl))
                                go_ret
                                exact HR0 false (by rw [Hfr.out, Hok.out]; first | (simp [*]; done) | (simp [*]; intros; omega)) _ hBw3
                              · have hlo' : ¬ cl * 1048576 + ck < lo := by omega
                                rcases Int.lt_or_le (cl * 1048576 + ck) hi with hhi | hhi
                                · have hhi' : ¬ hi ≤ cl * 1048576 + ck := by omega
                                  have HN : Hid (preK os i < cl * 1048576 + ck → opsOk 3 lo hi (-1) os = opsOk 3 lo hi (preK os (i + 1)) (os.drop (i + 1))) := by
                                    intro h; rw [Hok.out, decide_eq_true h]; simp [*]
                                  by_cases hi0 : i = 0
                                  · have l0 : ¬ (0 : Int) < (i : Int) := by omega
                                    have Hi0 : Hid (i = 0) := hi0
                                    clear hi0
                                    go_wp2_with (first
                                      | (go_at_call 123; refine (his.out _).mono ?_; rintro e w2 ⟨rfl, hb2⟩; have hb2' := hbl.trans (hb2.mono hBr); have hBw2 := hz.trans (hb2'.mono (Nat.le_succ _)); have hB2 : w.heap.size + 1 ≤ w2.heap.size := Nat.le_trans hBr hb2.size; obtain ⟨p0, p1, p2, p3, p4, p5, p6, p7⟩ := fr8N (hzs ▸ hb2') rfl; obtain ⟨e0, e1, e2, e3, e4, e5⟩ := (HOA.out.below hBw2).cells hlt; rw [Hoi.out] at e0 e1 e2 e3 e4 e5; dsimp only at e0 e1 e2 e3 e4 e5)
                                      | (go_at_call 124; refine (keyG _ _ _ _ _ _ u1 u2 _).mono ?_; rintro e w3 ⟨rfl, hb3⟩; have hb3' := hb2'.trans (hb3.mono hB2); have hBw3 := hz.trans (hb3'.mono (Nat.le_succ _)); have hB3 : w.heap.size + 1 ≤ w3.heap.size := Nat.le_trans hB2 hb3.size; obtain ⟨f0, f1, f2, f3, f4, f5, f6, f7⟩ := fr8N (hzs ▸ hb3') rfl))
                                    go_roundw
                                    case rel => exact ⟨i + 1, hlt, by go_num, HN.out (by have := Hi0.out; subst this; show (-1 : Int) < _; have := u1.1; have := u2.1; omega), hb3'⟩
                                    case measure => simp [intOf] <;> omega
                                  · have l0 : (0 : Int) < (i : Int) := by omega
                                    obtain ⟨j, rfl⟩ : ∃ j, i = j + 1 := ⟨i - 1, by omega⟩
                                    have hj : j < os.length := by omega
                                    obtain ⟨-, y1, y2, -, -, -⟩ := HO.out.2 os[j] (List.getElem_mem hj)
                                    obtain ⟨P, hP⟩ : ∃ P, os[j].cl * 1048576 + os[j].ck = P := ⟨_, rfl⟩
                                    have hpk : preK os (j + 1) = P := by unfold preK; rw [if_neg (by omega), Nat.add_sub_cancel, List.getElem?_eq_getElem hj]; exact hP
                                    have HPk : Hid (os[j].cl * 1048576 + os[j].ck = P) := hP
                                    rw [hpk] at Hok HN
                                    clear hP hpk
                                    rcases Int.lt_or_le P (cl * 1048576 + ck) with hlt2 | hle2
                                    · have hlt2' : ¬ cl * 1048576 + ck ≤ P := by omega
                                      go_wp2_with (first
                                        | (go_at_call 124; have hq := v0; clear hq; refine (keyG _ _ _ _ _ _ y1 y2 _).mono ?_; rw [HPk.out]; rintro e w6 ⟨rfl, hb6⟩; have hb6' := hb3'.trans (hb6.mono hB3); have hBw6 := hz.trans (hb6'.mono (Nat.le_succ _)))
                                        | (go_at_call 123; refine (his.out _).mono ?_; rintro e w2 ⟨rfl, hb2⟩; have hb2' := hbl.trans (hb2.mono hBr); have hBw2 := hz.trans (hb2'.mono (Nat.le_succ _)); have hB2 : w.heap.size + 1 ≤ w2.heap.size := Nat.le_trans hBr hb2.size; obtain ⟨p0, p1, p2, p3, p4, p5, p6, p7⟩ := fr8N (hzs ▸ hb2') rfl; obtain ⟨e0, e1, e2, e3, e4, e5⟩ := (HOA.out.below hBw2).cells hlt; rw [Hoi.out] at e0 e1 e2 e3 e4 e5; dsimp only at e0 e1 e2 e3 e4 e5)
                                        | (go_at_call 124; refine (keyG _ _ _ _ _ _ u1 u2 _).mono ?_; rintro e w3 ⟨rfl, hb3⟩; have hb3' := hb2'.trans (hb3.mono hB2); have hBw3 := hz.trans (hb3'.mono (Nat.le_succ _)); have hB3 : w.heap.size + 1 ≤ w3.heap.size := Nat.le_trans hB2 hb3.size; obtain ⟨f0, f1, f2, f3, f4, f5, f6, f7⟩ := fr8N (hzs ▸ hb3') rfl; obtain ⟨v0, v1, v2, v3, v4, v5⟩ := (HOA.out.below hBw3).cells (i := j) hj))
                                      go_roundw
                                      case rel => exact ⟨j + 1 + 1, hlt, by go_num, HN.out hlt2, hb6'⟩
                                      case measure => simp [intOf] <;> omega
                                    · have hle2' : ¬ P < cl * 1048576 + ck := by omega
                                      go_wp2_with (first
                                        | (go_at_call 124; have hq := v0; clear hq; refine (keyG _ _ _ _ _ _ y1 y2 _).mono ?_; rw [HPk.out]; rintro e w6 ⟨rfl, hb6⟩; have hb6' := hb3'.trans (hb6.mono hB3); have hBw6 := hz.trans (hb6'.mono (Nat.le_succ _)))
                                        | (go_at_call 123; refine (his.out _).mono ?_; rintro e w2 ⟨rfl, hb2⟩; have hb2' := hbl.trans (hb2.mono hBr); have hBw2 := hz.trans (hb2'.mono (Nat.le_succ _)); have hB2 : w.heap.size + 1 ≤ w2.heap.size := Nat.le_trans hBr hb2.size; obtain ⟨p0, p1, p2, p3, p4, p5, p6, p7⟩ := fr8N (hzs ▸ hb2') rfl; obtain ⟨e0, e1, e2, e3, e4, e5⟩ := (HOA.out.below hBw2).cells hlt; rw [Hoi.out] at e0 e1 e2 e3 e4 e5; dsimp only at e0 e1 e2 e3 e4 e5)
                                        | (go_at_call 124; refine (keyG _ _ _ _ _ _ u1 u2 _).mono ?_; rintro e w3 ⟨rfl, hb3⟩; have hb3' := hb2'.trans (hb3.mono hB2); have hBw3 := hz.trans (hb3'.mono (Nat.le_succ _)); have hB3 : w.heap.size + 1 ≤ w3.heap.size := Nat.le_trans hB2 hb3.size; obtain ⟨f0, f1, f2, f3, f4, f5, f6, f7⟩ := fr8N (hzs ▸ hb3') rfl; obtain ⟨v0, v1, v2, v3, v4, v5⟩ := (HOA.out.below hBw3).cells (i := j) hj))
                                      go_ret
                                      exact HR0 false (by rw [Hfr.out, Hok.out]; first | (simp [*]; done) | (simp [*]; intros; omega)) _ hBw6
                                · have hhi' : ¬ cl * 1048576 + ck < hi := by omega
                                  go_wp2_with (first
                                    | (go_at_call 123; refine (his.out _).mono ?_; rintro e w2 ⟨rfl, hb2⟩; have hb2' := hbl.trans (hb2.mono hBr); have hBw2 := hz.trans (hb2'.mono (Nat.le_succ _)); have hB2 : w.heap.size + 1 ≤ w2.heap.size := Nat.le_trans hBr hb2.size; obtain ⟨p0, p1, p2, p3, p4, p5, p6, p7⟩ := fr8N (hzs ▸ hb2') rfl; obtain ⟨e0, e1, e2, e3, e4, e5⟩ := (HOA.out.below hBw2).cells hlt; rw [Hoi.out] at e0 e1 e2 e3 e4 e5; dsimp only at e0 e1 e2 e3 e4 e5)
                                    | (go_at_call 124; refine (keyG _ _ _ _ _ _ u1 u2 _).mono ?_; rintro e w3 ⟨rfl, hb3⟩; have hb3' := hb2'.trans (hb3.mono hB2); have hBw3 := hz.trans (hb3'.mono (Nat.le_succ _)); have hB3 : w.heap.size + 1 ≤ w3.heap.size := Nat.le_trans hB2 hb3.size; obtain ⟨f0, f1, f2, f3, f4, f5, f6, f7⟩ := fr8N (hzs ▸ hb3') rfl))
                                  go_ret
                                  exact HR0 false (by rw [Hfr.out, Hok.out]; first | (simp [*]; done) | (simp [*]; intros; omega)) _ hBw3
                          · obtain rfl : i = os.length := by omega
                            go_wp2_with fail
                            go_ret
                            exact HR0 true (by rw [Hfr.out, hok, List.drop_length, opsOk]) _ hBw
                    · have r1' : ¬ lo < hi := by omega
                      go_enter Tryz.func72, Tryz.ntmps72
                      go_wp2_with fail
                      go_ret
                      exact HR0 false (by rw [HE.out]; first | (simp [nOk, rngOk, N0.out, *]; done) | (simp [nOk, rngOk, *]; done) | (simp [nOk, rngOk, *]; omega) | (simp [nOk, rngOk, *]; intros; omega)) _ hz
                  · have qd2 : (d2 == 0) = false := by simpa using zd2
                    go_enter Tryz.func72, Tryz.ntmps72
                    go_wp2_with fail
                    go_ret
                    exact HR0 false (by rw [HE.out]; first | (simp [nOk, rngOk, N0.out, *]; done) | (simp [nOk, rngOk, *]; done) | (simp [nOk, rngOk, *]; omega) | (simp [nOk, rngOk, *]; intros; omega)) _ hz
                · have qd1 : (d1 == 0) = false := by simpa using zd1
                  go_enter Tryz.func72, Tryz.ntmps72
                  go_wp2_with fail
                  go_ret
                  exact HR0 false (by rw [HE.out]; first | (simp [nOk, rngOk, N0.out, *]; done) | (simp [nOk, rngOk, *]; done) | (simp [nOk, rngOk, *]; omega) | (simp [nOk, rngOk, *]; intros; omega)) _ hz
              · have qd0 : (d0 == 0) = false := by simpa using zd0
                go_enter Tryz.func72, Tryz.ntmps72
                go_wp2_with fail
                go_ret
                exact HR0 false (by rw [HE.out]; first | (simp [nOk, rngOk, N0.out, *]; done) | (simp [nOk, rngOk, *]; done) | (simp [nOk, rngOk, *]; omega) | (simp [nOk, rngOk, *]; intros; omega)) _ hz
        · have n0' : ((os.length : Int) != 1) = true := by simp; omega
          go_enter Tryz.func72, Tryz.ntmps72
          go_wp2_with fail
          go_ret
          exact HR0 false (by rw [HE.out]; first | (simp [nOk, rngOk, N0.out, *]; done) | (simp [nOk, rngOk, *]; done) | (simp [nOk, rngOk, *]; omega) | (simp [nOk, rngOk, *]; intros; omega)) _ hz
      · by_cases k4 : k = 4
        · subst k4
          rcases Nat.lt_or_ge 4 os.length with n0 | n0
          · have n0' : (4 : Int) < (os.length : Int) := by omega
            have n0q : ¬ os.length ≤ 4 := by omega
            go_enter Tryz.func72, Tryz.ntmps72
            go_wp2_with fail
            go_ret
            exact HR0 false (by rw [HE.out]; first | (simp [nOk, rngOk, N0.out, *]; done) | (simp [nOk, rngOk, *]; done) | (simp [nOk, rngOk, *]; omega) | (simp [nOk, rngOk, *]; intros; omega)) _ hz
          · have n0' : ¬ (4 : Int) < (os.length : Int) := by omega
            rcases Int.lt_or_le ss 1 with s1 | s1
            · have s1' : ¬ 1 ≤ ss := by omega
              go_enter Tryz.func72, Tryz.ntmps72
              go_wp2_with fail
              go_ret
              exact HR0 false (by rw [HE.out]; first | (simp [nOk, rngOk, N0.out, *]; done) | (simp [nOk, rngOk, *]; done) | (simp [nOk, rngOk, *]; omega) | (simp [nOk, rngOk, *]; intros; omega)) _ hz
            · have s1' : ¬ ss < 1 := by omega
              rcases Int.lt_or_le 1073741823 ss with s2 | s2
              · have s2' : ¬ ss ≤ 1073741823 := by omega
                go_enter Tryz.func72, Tryz.ntmps72
                go_wp2_with fail
                go_ret
                exact HR0 false (by rw [HE.out]; first | (simp [nOk, rngOk, N0.out, *]; done) | (simp [nOk, rngOk, *]; done) | (simp [nOk, rngOk, *]; omega) | (simp [nOk, rngOk, *]; intros; omega)) _ hz
              · have s2' : ¬ 1073741823 < ss := by omega
                have hD := eqDigG
                by_cases zd0 : d0 = 0
                · subst zd0
                  by_cases zd1 : d1 = 0
                  · subst zd1
                    by_cases zd2 : d2 = 0
                    · subst zd2
                      rcases Int.lt_or_le lo hi with r1 | r1
                      · have r1' : ¬ hi ≤ lo := by omega
                        rcases Int.lt_or_le 1099511627776 hi with r2 | r2
                        · have r2' : ¬ hi ≤ 1099511627776 := by omega
                          go_enter Tryz.func72, Tryz.ntmps72
                          go_wp2_with fail
                          go_ret
                          exact HR0 false (by rw [HE.out]; first | (simp [nOk, rngOk, N0.out, *]; done) | (simp [nOk, rngOk, *]; done) | (simp [nOk, rngOk, *]; omega) | (simp [nOk, rngOk, *]; intros; omega)) _ hz
                        · have r2' : ¬ 1099511627776 < hi := by omega
                          have hfr : okFrm ⟨4, ss, lo, hi, 0, 0, 0, os⟩ = opsOk 4 lo hi (-1) os := by rw [HE.out]; first | (simp [nOk, rngOk, N0.out, *]; done) | (simp [nOk, rngOk, *]; done) | (simp [nOk, rngOk, *]; omega)
                          have Hfr : Hid (okFrm ⟨4, ss, lo, hi, 0, 0, 0, os⟩ = opsOk 4 lo hi (-1) os) := hfr
                          clear hfr
                          have hzs : (w.alloc (.cells #[.int .i64 4, .int .u32 ss, .int .u64 lo, .int .u64 hi, .int .u8 0, .int .u8 0, .int .u8 0, .slice a os.length cap] 58)).heap.size = w.heap.size + 1 := by simp
                          go_enter Tryz.func72, Tryz.ntmps72
                          go_wp2_with fail
                          go_loopw [4] (fun iv wr => ∃ i : Nat, i ≤ os.length ∧ iv = .int .i64 i ∧ opsOk 4 lo hi (-1) os = opsOk 4 lo hi (preK os i) (os.drop i) ∧ Below (w.heap.size + 1) (w.alloc (.cells #[.int .i64 4, .int .u32 ss, .int .u64 lo, .int .u64 hi, .int .u8 0, .int .u8 0, .int .u8 0, .slice a os.length cap] 58)) wr) (fun iv _ => os.length - (intOf iv).toNat)
                          case atStart => exact ⟨0, Nat.zero_le _, rfl, rfl, Below.refl _ _⟩
                          case round =>
                            obtain ⟨i, hi', rfl, hok, hbl⟩ := hrel
                            have hBw : Below w.heap.size w wr := hz.trans (hbl.mono (Nat.le_succ _))
                            have hBr : w.heap.size + 1 ≤ wr.heap.size := Nat.le_trans (by simp) hbl.size
                            obtain ⟨t0, t1, t2, t3, t4, t5, t6, t7⟩ := fr8N (hzs ▸ hbl) rfl
                            by_cases hlt : i < os.length
                            · skip
                              have li : (i : Int) < (os.length : Int) := by omega
                              obtain ⟨hO, hT⟩ := HO.out
                              have hTi := hT os[i] (List.getElem_mem hlt)
                              rw [HST.out i hlt] at hok
                              rcases hO with h0 | ⟨g, off, rfl, hO⟩
                              · subst h0; cases hlt
                              obtain ⟨c0, c1, c2, c3, c4, c5⟩ := (hO.below hBw).cells hlt
                              have HOA : Hid (OpsAt w g off os) := hO
                              clear hO hT
                              generalize hoi : os[i] = oi at *
                              have Hoi : Hid (os[i] = oi) := hoi
                              clear hoi
                              obtain ⟨kd, cl, ck, st, rf, ch⟩ := oi
                              obtain ⟨u0, u1, u2, u3, u4, u5⟩ := hTi
                              dsimp only at c0 c1 c2 c3 c4 c5 u0 u1 u2 u3 u4 u5
                              have his : Hid (∀ W, Calls Tryz.prog 123 #[.agg #[.int .i64 kd, .int .u32 cl, .int .u32 ck, .int .u32 st, .int .u64 rf, .int .i32 ch]] W fun e w' => e = .returned (.bool (okOp kd cl ck st rf ch)) ∧ Below W.heap.size W w') := isOp_any kd cl ck st rf ch u1 u2 u4.1 u4.2
                              have eR : Opn.ok ⟨kd, cl, ck, st, rf, ch⟩ = okOp kd cl ck st rf ch := rfl
                              rw [eR] at hok
                              have eK : Opn.key ⟨kd, cl, ck, st, rf, ch⟩ = cl * 1048576 + ck := rfl
                              rw [eK] at hok
                              clear eR eK
                              generalize okOp kd cl ck st rf ch = R at *
                              have Hok : Hid (opsOk 4 lo hi (-1) os = _) := hok
                              clear hok
                              cases R
                              · skip
                                go_wp2_with (first
                                  | (go_at_call 123; refine (his.out _).mono ?_; rintro e w2 ⟨rfl, hb2⟩; have hb2' := hbl.trans (hb2.mono hBr); have hBw2 := hz.trans (hb2'.mono (Nat.le_succ _)); have hB2 : w.heap.size + 1 ≤ w2.heap.size := Nat.le_trans hBr hb2.size; obtain ⟨p0, p1, p2, p3, p4, p5, p6, p7⟩ := fr8N (hzs ▸ hb2') rfl; obtain ⟨e0, e1, e2, e3, e4, e5⟩ := (HOA.out.below hBw2).cells hlt; rw [Hoi.out] at e0 e1 e2 e3 e4 e5; dsimp only at e0 e1 e2 e3 e4 e5)
                                  | (go_at_call 124; refine (keyG _ _ _ _ _ _ u1 u2 _).mono ?_; rintro e w3 ⟨rfl, hb3⟩; have hb3' := hb2'.trans (hb3.mono hB2); have hBw3 := hz.trans (hb3'.mono (Nat.le_succ _)); have hB3 : w.heap.size + 1 ≤ w3.heap.size := Nat.le_trans hB2 hb3.size; obtain ⟨f0, f1, f2, f3, f4, f5, f6, f7⟩ := fr8N (hzs ▸ hb3') rfl))
                                go_ret
                                exact HR0 false (by rw [Hfr.out, Hok.out]; first | (simp [*]; done) | (simp [*]; intros; omega)) _ hBw3
                              · skip
                                rcases Int.lt_or_le (cl * 1048576 + ck) lo with hlo | hlo
                                · have hlo' : ¬ lo ≤ cl * 1048576 + ck := by omega
                                  go_wp2_with (first
                                    | (go_at_call 123; refine (his.out _).mono ?_; rintro e w2 ⟨rfl, hb2⟩; have hb2' := hbl.trans (hb2.mono hBr); have hBw2 := hz.trans (hb2'.mono (Nat.le_succ _)); have hB2 : w.heap.size + 1 ≤ w2.heap.size := Nat.le_trans hBr hb2.size; obtain ⟨p0, p1, p2, p3, p4, p5, p6, p7⟩ := fr8N (hzs ▸ hb2') rfl; obtain ⟨e0, e1, e2, e3, e4, e5⟩ := (HOA.out.below hBw2).cells hlt; rw [Hoi.out] at e0 e1 e2 e3 e4 e5; dsimp only at e0 e1 e2 e3 e4 e5)
                                    | (go_at_call 124; refine (keyG _ _ _ _ _ _ u1 u2 _).mono ?_; rintro e w3 ⟨rfl, hb3⟩; have hb3' := hb2'.trans (hb3.mono hB2); have hBw3 := hz.trans (hb3'.mono (Nat.le_succ _)); have hB3 : w.heap.size + 1 ≤ w3.heap.size := Nat.le_trans hB2 hb3.size; obtain ⟨f0, f1, f2, f3, f4, f5, f6, f7⟩ := fr8N (hzs ▸ hb3') rfl))
                                  go_ret
                                  exact HR0 false (by rw [Hfr.out, Hok.out]; first | (simp [*]; done) | (simp [*]; intros; omega)) _ hBw3
                                · have hlo' : ¬ cl * 1048576 + ck < lo := by omega
                                  rcases Int.lt_or_le (cl * 1048576 + ck) hi with hhi | hhi
                                  · have hhi' : ¬ hi ≤ cl * 1048576 + ck := by omega
                                    have HN : Hid (preK os i < cl * 1048576 + ck → opsOk 4 lo hi (-1) os = opsOk 4 lo hi (preK os (i + 1)) (os.drop (i + 1))) := by
                                      intro h; rw [Hok.out, decide_eq_true h]; simp [*]
                                    by_cases hi0 : i = 0
                                    · have l0 : ¬ (0 : Int) < (i : Int) := by omega
                                      have Hi0 : Hid (i = 0) := hi0
                                      clear hi0
                                      go_wp2_with (first
                                        | (go_at_call 123; refine (his.out _).mono ?_; rintro e w2 ⟨rfl, hb2⟩; have hb2' := hbl.trans (hb2.mono hBr); have hBw2 := hz.trans (hb2'.mono (Nat.le_succ _)); have hB2 : w.heap.size + 1 ≤ w2.heap.size := Nat.le_trans hBr hb2.size; obtain ⟨p0, p1, p2, p3, p4, p5, p6, p7⟩ := fr8N (hzs ▸ hb2') rfl; obtain ⟨e0, e1, e2, e3, e4, e5⟩ := (HOA.out.below hBw2).cells hlt; rw [Hoi.out] at e0 e1 e2 e3 e4 e5; dsimp only at e0 e1 e2 e3 e4 e5)
                                        | (go_at_call 124; refine (keyG _ _ _ _ _ _ u1 u2 _).mono ?_; rintro e w3 ⟨rfl, hb3⟩; have hb3' := hb2'.trans (hb3.mono hB2); have hBw3 := hz.trans (hb3'.mono (Nat.le_succ _)); have hB3 : w.heap.size + 1 ≤ w3.heap.size := Nat.le_trans hB2 hb3.size; obtain ⟨f0, f1, f2, f3, f4, f5, f6, f7⟩ := fr8N (hzs ▸ hb3') rfl))
                                      go_roundw
                                      case rel => exact ⟨i + 1, hlt, by go_num, HN.out (by have := Hi0.out; subst this; show (-1 : Int) < _; have := u1.1; have := u2.1; omega), hb3'⟩
                                      case measure => simp [intOf] <;> omega
                                    · have l0 : (0 : Int) < (i : Int) := by omega
                                      obtain ⟨j, rfl⟩ : ∃ j, i = j + 1 := ⟨i - 1, by omega⟩
                                      have hj : j < os.length := by omega
                                      obtain ⟨-, y1, y2, -, -, -⟩ := HO.out.2 os[j] (List.getElem_mem hj)
                                      obtain ⟨P, hP⟩ : ∃ P, os[j].cl * 1048576 + os[j].ck = P := ⟨_, rfl⟩
                                      have hpk : preK os (j + 1) = P := by unfold preK; rw [if_neg (by omega), Nat.add_sub_cancel, List.getElem?_eq_getElem hj]; exact hP
                                      have HPk : Hid (os[j].cl * 1048576 + os[j].ck = P) := hP
                                      rw [hpk] at Hok HN
                                      clear hP hpk
                                      rcases Int.lt_or_le P (cl * 1048576 + ck) with hlt2 | hle2
                                      · have hlt2' : ¬ cl * 1048576 + ck ≤ P := by omega
                                        go_wp2_with (first
                                          | (go_at_call 124; have hq := v0; clear hq; refine (keyG _ _ _ _ _ _ y1 y2 _).mono ?_; rw [HPk.out]; rintro e w6 ⟨rfl, hb6⟩; have hb6' := hb3'.trans (hb6.mono hB3); have hBw6 := hz.trans (hb6'.mono (Nat.le_succ _)))
                                          | (go_at_call 123; refine (his.out _).mono ?_; rintro e w2 ⟨rfl, hb2⟩; have hb2' := hbl.trans (hb2.mono hBr); have hBw2 := hz.trans (hb2'.mono (Nat.le_succ _)); have hB2 : w.heap.size + 1 ≤ w2.heap.size := Nat.le_trans hBr hb2.size; obtain ⟨p0, p1, p2, p3, p4, p5, p6, p7⟩ := fr8N (hzs ▸ hb2') rfl; obtain ⟨e0, e1, e2, e3, e4, e5⟩ := (HOA.out.below hBw2).cells hlt; rw [Hoi.out] at e0 e1 e2 e3 e4 e5; dsimp only at e0 e1 e2 e3 e4 e5)
                                          | (go_at_call 124; refine (keyG _ _ _ _ _ _ u1 u2 _).mono ?_; rintro e w3 ⟨rfl, hb3⟩; have hb3' := hb2'.trans (hb3.mono hB2); have hBw3 := hz.trans (hb3'.mono (Nat.le_succ _)); have hB3 : w.heap.size + 1 ≤ w3.heap.size := Nat.le_trans hB2 hb3.size; obtain ⟨f0, f1, f2, f3, f4, f5, f6, f7⟩ := fr8N (hzs ▸ hb3') rfl; obtain ⟨v0, v1, v2, v3, v4, v5⟩ := (HOA.out.below hBw3).cells (i := j) hj))
                                        go_roundw
                                        case rel => exact ⟨j + 1 + 1, hlt, by go_num, HN.out hlt2, hb6'⟩
                                        case measure => simp [intOf] <;> omega
                                      · have hle2' : ¬ P < cl * 1048576 + ck := by omega
                                        go_wp2_with (first
                                          | (go_at_call 124; have hq := v0; clear hq; refine (keyG _ _ _ _ _ _ y1 y2 _).mono ?_; rw [HPk.out]; rintro e w6 ⟨rfl, hb6⟩; have hb6' := hb3'.trans (hb6.mono hB3); have hBw6 := hz.trans (hb6'.mono (Nat.le_succ _)))
                                          | (go_at_call 123; refine (his.out _).mono ?_; rintro e w2 ⟨rfl, hb2⟩; have hb2' := hbl.trans (hb2.mono hBr); have hBw2 := hz.trans (hb2'.mono (Nat.le_succ _)); have hB2 : w.heap.size + 1 ≤ w2.heap.size := Nat.le_trans hBr hb2.size; obtain ⟨p0, p1, p2, p3, p4, p5, p6, p7⟩ := fr8N (hzs ▸ hb2') rfl; obtain ⟨e0, e1, e2, e3, e4, e5⟩ := (HOA.out.below hBw2).cells hlt; rw [Hoi.out] at e0 e1 e2 e3 e4 e5; dsimp only at e0 e1 e2 e3 e4 e5)
                                          | (go_at_call 124; refine (keyG _ _ _ _ _ _ u1 u2 _).mono ?_; rintro e w3 ⟨rfl, hb3⟩; have hb3' := hb2'.trans (hb3.mono hB2); have hBw3 := hz.trans (hb3'.mono (Nat.le_succ _)); have hB3 : w.heap.size + 1 ≤ w3.heap.size := Nat.le_trans hB2 hb3.size; obtain ⟨f0, f1, f2, f3, f4, f5, f6, f7⟩ := fr8N (hzs ▸ hb3') rfl; obtain ⟨v0, v1, v2, v3, v4, v5⟩ := (HOA.out.below hBw3).cells (i := j) hj))
                                        go_ret
                                        exact HR0 false (by rw [Hfr.out, Hok.out]; first | (simp [*]; done) | (simp [*]; intros; omega)) _ hBw6
                                  · have hhi' : ¬ cl * 1048576 + ck < hi := by omega
                                    go_wp2_with (first
                                      | (go_at_call 123; refine (his.out _).mono ?_; rintro e w2 ⟨rfl, hb2⟩; have hb2' := hbl.trans (hb2.mono hBr); have hBw2 := hz.trans (hb2'.mono (Nat.le_succ _)); have hB2 : w.heap.size + 1 ≤ w2.heap.size := Nat.le_trans hBr hb2.size; obtain ⟨p0, p1, p2, p3, p4, p5, p6, p7⟩ := fr8N (hzs ▸ hb2') rfl; obtain ⟨e0, e1, e2, e3, e4, e5⟩ := (HOA.out.below hBw2).cells hlt; rw [Hoi.out] at e0 e1 e2 e3 e4 e5; dsimp only at e0 e1 e2 e3 e4 e5)
                                      | (go_at_call 124; refine (keyG _ _ _ _ _ _ u1 u2 _).mono ?_; rintro e w3 ⟨rfl, hb3⟩; have hb3' := hb2'.trans (hb3.mono hB2); have hBw3 := hz.trans (hb3'.mono (Nat.le_succ _)); have hB3 : w.heap.size + 1 ≤ w3.heap.size := Nat.le_trans hB2 hb3.size; obtain ⟨f0, f1, f2, f3, f4, f5, f6, f7⟩ := fr8N (hzs ▸ hb3') rfl))
                                    go_ret
                                    exact HR0 false (by rw [Hfr.out, Hok.out]; first | (simp [*]; done) | (simp [*]; intros; omega)) _ hBw3
                            · obtain rfl : i = os.length := by omega
                              go_wp2_with fail
                              go_ret
                              exact HR0 true (by rw [Hfr.out, hok, List.drop_length, opsOk]) _ hBw
                      · have r1' : ¬ lo < hi := by omega
                        go_enter Tryz.func72, Tryz.ntmps72
                        go_wp2_with fail
                        go_ret
                        exact HR0 false (by rw [HE.out]; first | (simp [nOk, rngOk, N0.out, *]; done) | (simp [nOk, rngOk, *]; done) | (simp [nOk, rngOk, *]; omega) | (simp [nOk, rngOk, *]; intros; omega)) _ hz
                    · have qd2 : (d2 == 0) = false := by simpa using zd2
                      go_enter Tryz.func72, Tryz.ntmps72
                      go_wp2_with fail
                      go_ret
                      exact HR0 false (by rw [HE.out]; first | (simp [nOk, rngOk, N0.out, *]; done) | (simp [nOk, rngOk, *]; done) | (simp [nOk, rngOk, *]; omega) | (simp [nOk, rngOk, *]; intros; omega)) _ hz
                  · have qd1 : (d1 == 0) = false := by simpa using zd1
                    go_enter Tryz.func72, Tryz.ntmps72
                    go_wp2_with fail
                    go_ret
                    exact HR0 false (by rw [HE.out]; first | (simp [nOk, rngOk, N0.out, *]; done) | (simp [nOk, rngOk, *]; done) | (simp [nOk, rngOk, *]; omega) | (simp [nOk, rngOk, *]; intros; omega)) _ hz
                · have qd0 : (d0 == 0) = false := by simpa using zd0
                  go_enter Tryz.func72, Tryz.ntmps72
                  go_wp2_with fail
                  go_ret
                  exact HR0 false (by rw [HE.out]; first | (simp [nOk, rngOk, N0.out, *]; done) | (simp [nOk, rngOk, *]; done) | (simp [nOk, rngOk, *]; omega) | (simp [nOk, rngOk, *]; intros; omega)) _ hz
        · by_cases k5 : k = 5
          · subst k5
            rcases Nat.lt_or_ge os.length 1 with n0 | n0
            · have n0' : (os.length : Int) < 1 := by omega
              have n0q : ¬ 1 ≤ os.length := by omega
              go_enter Tryz.func72, Tryz.ntmps72
              go_wp2_with fail
              go_ret
              exact HR0 false (by rw [HE.out]; first | (simp [nOk, rngOk, N0.out, *]; done) | (simp [nOk, rngOk, *]; done) | (simp [nOk, rngOk, *]; omega) | (simp [nOk, rngOk, *]; intros; omega)) _ hz
            · have n0' : ¬ (os.length : Int) < 1 := by omega
              rcases Nat.lt_or_ge 6 os.length with n1 | n1
              · have n1' : (6 : Int) < (os.length : Int) := by omega
                have n1q : ¬ os.length ≤ 6 := by omega
                go_enter Tryz.func72, Tryz.ntmps72
                go_wp2_with fail
                go_ret
                exact HR0 false (by rw [HE.out]; first | (simp [nOk, rngOk, N0.out, *]; done) | (simp [nOk, rngOk, *]; done) | (simp [nOk, rngOk, *]; omega) | (simp [nOk, rngOk, *]; intros; omega)) _ hz
              · have n1' : ¬ (6 : Int) < (os.length : Int) := by omega
                by_cases l0 : lo = 0
                · subst l0
                  by_cases h0 : hi = 0
                  · subst h0
                    rcases Int.lt_or_le ss 1 with s1 | s1
                    · have s1' : ¬ 1 ≤ ss := by omega
                      go_enter Tryz.func72, Tryz.ntmps72
                      go_wp2_with fail
                      go_ret
                      exact HR0 false (by rw [HE.out]; first | (simp [nOk, rngOk, N0.out, *]; done) | (simp [nOk, rngOk, *]; done) | (simp [nOk, rngOk, *]; omega) | (simp [nOk, rngOk, *]; intros; omega)) _ hz
                    · have s1' : ¬ ss < 1 := by omega
                      rcases Int.lt_or_le 1073741823 ss with s2 | s2
                      · have s2' : ¬ ss ≤ 1073741823 := by omega
                        go_enter Tryz.func72, Tryz.ntmps72
                        go_wp2_with fail
                        go_ret
                        exact HR0 false (by rw [HE.out]; first | (simp [nOk, rngOk, N0.out, *]; done) | (simp [nOk, rngOk, *]; done) | (simp [nOk, rngOk, *]; omega) | (simp [nOk, rngOk, *]; intros; omega)) _ hz
                      · have s2' : ¬ 1073741823 < ss := by omega
                        have hD := eqDigG
                        by_cases zd0 : d0 = 0
                        · subst zd0
                          by_cases zd1 : d1 = 0
                          · subst zd1
                            by_cases zd2 : d2 = 0
                            · subst zd2
                              have hfr : okFrm ⟨5, ss, 0, 0, 0, 0, 0, os⟩ = opsOk 5 0 0 (-1) os := by rw [HE.out]; first | (simp [nOk, rngOk, N0.out, *]; done) | (simp [nOk, rngOk, *]; done) | (simp [nOk, rngOk, *]; omega)
                              have Hfr : Hid (okFrm ⟨5, ss, 0, 0, 0, 0, 0, os⟩ = opsOk 5 0 0 (-1) os) := hfr
                              clear hfr
                              have hzs : (w.alloc (.cells #[.int .i64 5, .int .u32 ss, .int .u64 0, .int .u64 0, .int .u8 0, .int .u8 0, .int .u8 0, .slice a os.length cap] 58)).heap.size = w.heap.size + 1 := by simp
                              go_enter Tryz.func72, Tryz.ntmps72
                              go_wp2_with fail
                              go_loopw [4] (fun iv wr => ∃ i : Nat, i ≤ os.length ∧ iv = .int .i64 i ∧ opsOk 5 0 0 (-1) os = opsOk 5 0 0 (preK os i) (os.drop i) ∧ Below (w.heap.size + 1) (w.alloc (.cells #[.int .i64 5, .int .u32 ss, .int .u64 0, .int .u64 0, .int .u8 0, .int .u8 0, .int .u8 0, .slice a os.length cap] 58)) wr) (fun iv _ => os.length - (intOf iv).toNat)
                              case atStart => exact ⟨0, Nat.zero_le _, rfl, rfl, Below.refl _ _⟩
                              case round =>
                                obtain ⟨i, hi', rfl, hok, hbl⟩ := hrel
                                have hBw : Below w.heap.size w wr := hz.trans (hbl.mono (Nat.le_succ _))
                                have hBr : w.heap.size + 1 ≤ wr.heap.size := Nat.le_trans (by simp) hbl.size
                                obtain ⟨t0, t1, t2, t3, t4, t5, t6, t7⟩ := fr8N (hzs ▸ hbl) rfl
                                by_cases hlt : i < os.length
                                · skip
                                  have li : (i : Int) < (os.length : Int) := by omega
                                  obtain ⟨hO, hT⟩ := HO.out
                                  have hTi := hT os[i] (List.getElem_mem hlt)
                                  rw [HST.out i hlt] at hok
                                  rcases hO with h0 | ⟨g, off, rfl, hO⟩
                                  · subst h0; cases hlt
                                  obtain ⟨c0, c1, c2, c3, c4, c5⟩ := (hO.below hBw).cells hlt
                                  have HOA : Hid (OpsAt w g off os) := hO
                                  clear hO hT
                                  generalize hoi : os[i] = oi at *
                                  have Hoi : Hid (os[i] = oi) := hoi
                                  clear hoi
                                  obtain ⟨kd, cl, ck, st, rf, ch⟩ := oi
                                  obtain ⟨u0, u1, u2, u3, u4, u5⟩ := hTi
                                  dsimp only at c0 c1 c2 c3 c4 c5 u0 u1 u2 u3 u4 u5
                                  have his : Hid (∀ W, Calls Tryz.prog 123 #[.agg #[.int .i64 kd, .int .u32 cl, .int .u32 ck, .int .u32 st, .int .u64 rf, .int .i32 ch]] W fun e w' => e = .returned (.bool (okOp kd cl ck st rf ch)) ∧ Below W.heap.size W w') := isOp_any kd cl ck st rf ch u1 u2 u4.1 u4.2
                                  have eR : Opn.ok ⟨kd, cl, ck, st, rf, ch⟩ = okOp kd cl ck st rf ch := rfl
                                  rw [eR] at hok
                                  have eK : Opn.key ⟨kd, cl, ck, st, rf, ch⟩ = cl * 1048576 + ck := rfl
                                  rw [eK] at hok
                                  clear eR eK
                                  generalize okOp kd cl ck st rf ch = R at *
                                  have Hok : Hid (opsOk 5 0 0 (-1) os = _) := hok
                                  clear hok
                                  cases R
                                  · skip
                                    go_wp2_with (first
                                      | (go_at_call 123; refine (his.out _).mono ?_; rintro e w2 ⟨rfl, hb2⟩; have hb2' := hbl.trans (hb2.mono hBr); have hBw2 := hz.trans (hb2'.mono (Nat.le_succ _)); have hB2 : w.heap.size + 1 ≤ w2.heap.size := Nat.le_trans hBr hb2.size; obtain ⟨p0, p1, p2, p3, p4, p5, p6, p7⟩ := fr8N (hzs ▸ hb2') rfl; obtain ⟨e0, e1, e2, e3, e4, e5⟩ := (HOA.out.below hBw2).cells hlt; rw [Hoi.out] at e0 e1 e2 e3 e4 e5; dsimp only at e0 e1 e2 e3 e4 e5)
                                      | (go_at_call 124; refine (keyG _ _ _ _ _ _ u1 u2 _).mono ?_; rintro e w3 ⟨rfl, hb3⟩; have hb3' := hb2'.trans (hb3.mono hB2); have hBw3 := hz.trans (hb3'.mono (Nat.le_succ _)); have hB3 : w.heap.size + 1 ≤ w3.heap.size := Nat.le_trans hB2 hb3.size; obtain ⟨f0, f1, f2, f3, f4, f5, f6, f7⟩ := fr8N (hzs ▸ hb3') rfl))
                                    go_ret
                                    exact HR0 false (by rw [Hfr.out, Hok.out]; first | (simp [*]; done) | (simp [*]; intros; omega)) _ hBw3
                                  · skip
                                    have HN : Hid (preK os i < cl * 1048576 + ck → opsOk 5 0 0 (-1) os = opsOk 5 0 0 (preK os (i + 1)) (os.drop (i + 1))) := by
                                      intro h; rw [Hok.out, decide_eq_true h]; simp [*]
                                    by_cases hi0 : i = 0
                                    · have l0 : ¬ (0 : Int) < (i : Int) := by omega
                                      have Hi0 : Hid (i = 0) := hi0
                                      clear hi0
                                      go_wp2_with (first
                                        | (go_at_call 123; refine (his.out _).mono ?_; rintro e w2 ⟨rfl, hb2⟩; have hb2' := hbl.trans (hb2.mono hBr); have hBw2 := hz.trans (hb2'.mono (Nat.le_succ _)); have hB2 : w.heap.size + 1 ≤ w2.heap.size := Nat.le_trans hBr hb2.size; obtain ⟨p0, p1, p2, p3, p4, p5, p6, p7⟩ := fr8N (hzs ▸ hb2') rfl; obtain ⟨e0, e1, e2, e3, e4, e5⟩ := (HOA.out.below hBw2).cells hlt; rw [Hoi.out] at e0 e1 e2 e3 e4 e5; dsimp only at e0 e1 e2 e3 e4 e5)
                                        | (go_at_call 124; refine (keyG _ _ _ _ _ _ u1 u2 _).mono ?_; rintro e w3 ⟨rfl, hb3⟩; have hb3' := hb2'.trans (hb3.mono hB2); have hBw3 := hz.trans (hb3'.mono (Nat.le_succ _)); have hB3 : w.heap.size + 1 ≤ w3.heap.size := Nat.le_trans hB2 hb3.size; obtain ⟨f0, f1, f2, f3, f4, f5, f6, f7⟩ := fr8N (hzs ▸ hb3') rfl))
                                      go_roundw
                                      case rel => exact ⟨i + 1, hlt, by go_num, HN.out (by have := Hi0.out; subst this; show (-1 : Int) < _; have := u1.1; have := u2.1; omega), hb3'⟩
                                      case measure => simp [intOf] <;> omega
                                    · have l0 : (0 : Int) < (i : Int) := by omega
                                      obtain ⟨j, rfl⟩ : ∃ j, i = j + 1 := ⟨i - 1, by omega⟩
                                      have hj : j < os.length := by omega
                                      obtain ⟨-, y1, y2, -, -, -⟩ := HO.out.2 os[j] (List.getElem_mem hj)
                                      obtain ⟨P, hP⟩ : ∃ P, os[j].cl * 1048576 + os[j].ck = P := ⟨_, rfl⟩
                                      have hpk : preK os (j + 1) = P := by unfold preK; rw [if_neg (by omega), Nat.add_sub_cancel, List.getElem?_eq_getElem hj]; exact hP
                                      have HPk : Hid (os[j].cl * 1048576 + os[j].ck = P) := hP
                                      rw [hpk] at Hok HN
                                      clear hP hpk
                                      rcases Int.lt_or_le P (cl * 1048576 + ck) with hlt2 | hle2
                                      · have hlt2' : ¬ cl * 1048576 + ck ≤ P := by omega
                                        go_wp2_with (first
                                          | (go_at_call 124; have hq := v0; clear hq; refine (keyG _ _ _ _ _ _ y1 y2 _).mono ?_; rw [HPk.out]; rintro e w6 ⟨rfl, hb6⟩; have hb6' := hb3'.trans (hb6.mono hB3); have hBw6 := hz.trans (hb6'.mono (Nat.le_succ _)))
                                          | (go_at_call 123; refine (his.out _).mono ?_; rintro e w2 ⟨rfl, hb2⟩; have hb2' := hbl.trans (hb2.mono hBr); have hBw2 := hz.trans (hb2'.mono (Nat.le_succ _)); have hB2 : w.heap.size + 1 ≤ w2.heap.size := Nat.le_trans hBr hb2.size; obtain ⟨p0, p1, p2, p3, p4, p5, p6, p7⟩ := fr8N (hzs ▸ hb2') rfl; obtain ⟨e0, e1, e2, e3, e4, e5⟩ := (HOA.out.below hBw2).cells hlt; rw [Hoi.out] at e0 e1 e2 e3 e4 e5; dsimp only at e0 e1 e2 e3 e4 e5)
                                          | (go_at_call 124; refine (keyG _ _ _ _ _ _ u1 u2 _).mono ?_; rintro e w3 ⟨rfl, hb3⟩; have hb3' := hb2'.trans (hb3.mono hB2); have hBw3 := hz.trans (hb3'.mono (Nat.le_succ _)); have hB3 : w.heap.size + 1 ≤ w3.heap.size := Nat.le_trans hB2 hb3.size; obtain ⟨f0, f1, f2, f3, f4, f5, f6, f7⟩ := fr8N (hzs ▸ hb3') rfl; obtain ⟨v0, v1, v2, v3, v4, v5⟩ := (HOA.out.below hBw3).cells (i := j) hj))
                                        go_roundw
                                        case rel => exact ⟨j + 1 + 1, hlt, by go_num, HN.out hlt2, hb6'⟩
                                        case measure => simp [intOf] <;> omega
                                      · have hle2' : ¬ P < cl * 1048576 + ck := by omega
                                        go_wp2_with (first
                                          | (go_at_call 124; have hq := v0; clear hq; refine (keyG _ _ _ _ _ _ y1 y2 _).mono ?_; rw [HPk.out]; rintro e w6 ⟨rfl, hb6⟩; have hb6' := hb3'.trans (hb6.mono hB3); have hBw6 := hz.trans (hb6'.mono (Nat.le_succ _)))
                                          | (go_at_call 123; refine (his.out _).mono ?_; rintro e w2 ⟨rfl, hb2⟩; have hb2' := hbl.trans (hb2.mono hBr); have hBw2 := hz.trans (hb2'.mono (Nat.le_succ _)); have hB2 : w.heap.size + 1 ≤ w2.heap.size := Nat.le_trans hBr hb2.size; obtain ⟨p0, p1, p2, p3, p4, p5, p6, p7⟩ := fr8N (hzs ▸ hb2') rfl; obtain ⟨e0, e1, e2, e3, e4, e5⟩ := (HOA.out.below hBw2).cells hlt; rw [Hoi.out] at e0 e1 e2 e3 e4 e5; dsimp only at e0 e1 e2 e3 e4 e5)
                                          | (go_at_call 124; refine (keyG _ _ _ _ _ _ u1 u2 _).mono ?_; rintro e w3 ⟨rfl, hb3⟩; have hb3' := hb2'.trans (hb3.mono hB2); have hBw3 := hz.trans (hb3'.mono (Nat.le_succ _)); have hB3 : w.heap.size + 1 ≤ w3.heap.size := Nat.le_trans hB2 hb3.size; obtain ⟨f0, f1, f2, f3, f4, f5, f6, f7⟩ := fr8N (hzs ▸ hb3') rfl; obtain ⟨v0, v1, v2, v3, v4, v5⟩ := (HOA.out.below hBw3).cells (i := j) hj))
                                        go_ret
                                        exact HR0 false (by rw [Hfr.out, Hok.out]; first | (simp [*]; done) | (simp [*]; intros; omega)) _ hBw6
                                · obtain rfl : i = os.length := by omega
                                  go_wp2_with fail
                                  go_ret
                                  exact HR0 true (by rw [Hfr.out, hok, List.drop_length, opsOk]) _ hBw
                            · have qd2 : (d2 == 0) = false := by simpa using zd2
                              go_enter Tryz.func72, Tryz.ntmps72
                              go_wp2_with fail
                              go_ret
                              exact HR0 false (by rw [HE.out]; first | (simp [nOk, rngOk, N0.out, *]; done) | (simp [nOk, rngOk, *]; done) | (simp [nOk, rngOk, *]; omega) | (simp [nOk, rngOk, *]; intros; omega)) _ hz
                          · have qd1 : (d1 == 0) = false := by simpa using zd1
                            go_enter Tryz.func72, Tryz.ntmps72
                            go_wp2_with fail
                            go_ret
                            exact HR0 false (by rw [HE.out]; first | (simp [nOk, rngOk, N0.out, *]; done) | (simp [nOk, rngOk, *]; done) | (simp [nOk, rngOk, *]; omega) | (simp [nOk, rngOk, *]; intros; omega)) _ hz
                        · have qd0 : (d0 == 0) = false := by simpa using zd0
                          go_enter Tryz.func72, Tryz.ntmps72
                          go_wp2_with fail
                          go_ret
                          exact HR0 false (by rw [HE.out]; first | (simp [nOk, rngOk, N0.out, *]; done) | (simp [nOk, rngOk, *]; done) | (simp [nOk, rngOk, *]; omega) | (simp [nOk, rngOk, *]; intros; omega)) _ hz
                  · have h0' : (hi != 0) = true := by simpa using h0
                    go_enter Tryz.func72, Tryz.ntmps72
                    go_wp2_with fail
                    go_ret
                    exact HR0 false (by rw [HE.out]; first | (simp [nOk, rngOk, N0.out, *]; done) | (simp [nOk, rngOk, *]; done) | (simp [nOk, rngOk, *]; omega) | (simp [nOk, rngOk, *]; intros; omega)) _ hz
                · have l0' : (lo != 0) = true := by simpa using l0
                  go_enter Tryz.func72, Tryz.ntmps72
                  go_wp2_with fail
                  go_ret
                  exact HR0 false (by rw [HE.out]; first | (simp [nOk, rngOk, N0.out, *]; done) | (simp [nOk, rngOk, *]; done) | (simp [nOk, rngOk, *]; omega) | (simp [nOk, rngOk, *]; intros; omega)) _ hz
          · skip
            have q1 : (k == 1) = false := by simpa using k1
            have q2 : (k == 2) = false := by simpa using k2
            have q3 : (k == 3) = false := by simpa using k3
            have q4 : (k == 4) = false := by simpa using k4
            have q5 : (k == 5) = false := by simpa using k5
            go_enter Tryz.func72, Tryz.ntmps72
            go_wp2_with fail
            go_ret
            exact HR0 false (by rw [HE.out]; first | (simp [nOk, rngOk, N0.out, *]; done) | (simp [nOk, rngOk, *]; done) | (simp [nOk, rngOk, *]; omega) | (simp [nOk, rngOk, *]; intros; omega)) _ hz
end Go.Proofs.YtgccjefbedpmpaaGreatDoor

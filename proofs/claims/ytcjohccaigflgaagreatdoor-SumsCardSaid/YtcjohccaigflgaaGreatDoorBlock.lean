import Derived.Test.YtcjohccaigflgaaGreatDoorRootsEnd
namespace Go.Proofs.YtcjohccaigflgaaGreatDoor
open Go.RowKit
def mB (m : ByteArray) (i : Nat) : Int := ((m.data.toList[i]?.getD 0).toNat : Int)
theorem idx_str (m : ByteArray) (i : Nat) (c : Int) (hc : c = i) (h : i < m.size) (w : World) : (Instr.index 9 (.string m) (.int .i64 c)).run Tryz.prog w = .ok (.int .u8 (mB m i)) w := by
  subst hc
  rw [run_index_string w _ _ _ _ Tryz.underlying9, dif_pos ⟨by omega, by omega⟩]
  have e : m.data.toList[i]? = some m[i] := by rw [List.getElem?_eq_getElem (by simpa using h)]; rfl
  simp only [Int.toNat_natCast, mB, e, Option.getD_some]
theorem mB_u8 (m : ByteArray) (i : Nat) : 0 ≤ mB m i ∧ mB m i ≤ 255 := by
  unfold mB; have := (m.data.toList[i]?.getD 0).toNat_lt; omega
theorem blk_rel1 {wr : World} {g : Nat} {m : Nat → Int} {k : Nat} (h16 : k < 16) (hr : RowIs wr g 76 64 (schTo m k)) : RowIs (wr.setCell ⟨g, k, none⟩ (Value.int IntKind.u32 (bits BinOp.or IntKind.u32 (bits BinOp.or IntKind.u32 (bits BinOp.or IntKind.u32 (m (4 * k) * 16777216) (m (4 * k + 1) * 65536)) (m (4 * k + 2) * 256)) (m (4 * k + 3))))).drew g 76 64 (schTo m (k + 1)) := by
  refine ((hr.set k _).drew).congr fun j _ => ?_
  rw [← schTo_step, sch_lt m h16]; rfl
theorem blk_rel2 {wr : World} {g : Nat} {m : Nat → Int} {k : Nat} (h16 : 16 ≤ k) (hr : RowIs wr g 76 64 (schTo m k)) : RowIs (wr.setCell ⟨g, k, none⟩ (Value.int IntKind.u32 ((bits BinOp.xor IntKind.u32 (bits BinOp.xor IntKind.u32 (rr (sch m (k - 2)) 17) (rr (sch m (k - 2)) 19)) (sch m (k - 2) / 1024) + sch m (k - 7) + bits BinOp.xor IntKind.u32 (bits BinOp.xor IntKind.u32 (rr (sch m (k - 15)) 7) (rr (sch m (k - 15)) 18)) (sch m (k - 15) / 8) + sch m (k - 16)) % 4294967296))).drew.drew.drew.drew.drew g 76 64 (schTo m (k + 1)) := by
  refine (hr.set k _).congr fun j _ => ?_
  rw [← schTo_step, sch_ge m h16]; rfl
theorem RowIs.set8r {w : World} {g : Nat} {t : TypeId} {f : Nat → Value} (h : RowIs w g t 8 f) (v : Nat → Value) : RowIs ((((((((w.setCell ⟨g, 7, none⟩ (v 7)).setCell ⟨g, 6, none⟩ (v 6)).setCell ⟨g, 5, none⟩ (v 5)).setCell ⟨g, 4, none⟩ (v 4)).setCell ⟨g, 3, none⟩ (v 3)).setCell ⟨g, 2, none⟩ (v 2)).setCell ⟨g, 1, none⟩ (v 1)).setCell ⟨g, 0, none⟩ (v 0)) g t 8 v := by
  refine ((((((((h.set 7 _).set 6 _).set 5 _).set 4 _).set 3 _).set 2 _).set 1 _).set 0 _).congr fun j hj => ?_
  match j, hj with
  | 0, _ => rfl
  | 1, _ => rfl
  | 2, _ => rfl
  | 3, _ => rfl
  | 4, _ => rfl
  | 5, _ => rfl
  | 6, _ => rfl
  | 7, _ => rfl
theorem blk_rel3 {wr : World} {g : Nat} {K X s st : Nat → Int} {k : Nat} (hst : stt K X s k = st) (hr : RowIs wr g 75 8 (fun j => .int .u32 (st j))) {v0 v4 : Int} (h0 : v0 = rnd (K k) (X k) st 0) (h4 : v4 = rnd (K k) (X k) st 4) :
    RowIs ((((((((wr.setCell ⟨g, 7, none⟩ (.int .u32 (st 6))).setCell ⟨g, 6, none⟩ (.int .u32 (st 5))).setCell ⟨g, 5, none⟩ (.int .u32 (st 4))).setCell ⟨g, 4, none⟩ (.int .u32 v4)).setCell ⟨g, 3, none⟩ (.int .u32 (st 2))).setCell ⟨g, 2, none⟩ (.int .u32 (st 1))).setCell ⟨g, 1, none⟩ (.int .u32 (st 0))).setCell ⟨g, 0, none⟩ (.int .u32 v0)) g 75 8 (fun j => .int .u32 (stt K X s (k + 1) j)) := by
  subst h0; subst h4; subst hst
  exact hr.set8r (fun j => .int .u32 (stt K X s (k + 1) j))
theorem below_set8r {B : Nat} {a w : World} {g : Nat} (h : Below B a w) (hg : B ≤ g) (v0 v1 v2 v3 v4 v5 v6 v7 : Value) : Below B a ((((((((w.setCell ⟨g, 7, none⟩ v7).setCell ⟨g, 6, none⟩ v6).setCell ⟨g, 5, none⟩ v5).setCell ⟨g, 4, none⟩ v4).setCell ⟨g, 3, none⟩ v3).setCell ⟨g, 2, none⟩ v2).setCell ⟨g, 1, none⟩ v1).setCell ⟨g, 0, none⟩ v0) :=
  (((((((h.setCell hg _).setCell hg _).setCell hg _).setCell hg _).setCell hg _).setCell hg _).setCell hg _).setCell hg _
theorem add_end (K X s : Nat → Int) : rowOf 8 (addTo s (stt K X s 64) 8) = rowOf 8 (fun j => .int .u32 (blk K X s j)) := rowOf_congr fun j hj => by simp [addTo, hj, blk, Int.add_comm]
set_option maxRecDepth 100000 in
set_option maxHeartbeats 1000000 in
theorem block_any (s RV : Nat → Int) (m : ByteArray) (hm : m.size = 64) (hsw : ∀ j, W32 (s j)) (w : World) :
   Calls Tryz.prog 167 #[.agg (rowOf 72 fun j => .int .u32 (RV j)), .agg #[.int .u32 (s 0), .int .u32 (s 1), .int .u32 (s 2), .int .u32 (s 3), .int .u32 (s 4), .int .u32 (s 5), .int .u32 (s 6), .int .u32 (s 7)], .string m] w fun e w' => e = .returned (.agg #[.int .u32 (blk (fun k => RV (8 + k)) (sch (mB m)) s 0), .int .u32 (blk (fun k => RV (8 + k)) (sch (mB m)) s 1), .int .u32 (blk (fun k => RV (8 + k)) (sch (mB m)) s 2), .int .u32 (blk (fun k => RV (8 + k)) (sch (mB m)) s 3), .int .u32 (blk (fun k => RV (8 + k)) (sch (mB m)) s 4), .int .u32 (blk (fun k => RV (8 + k)) (sch (mB m)) s 5), .int .u32 (blk (fun k => RV (8 + k)) (sch (mB m)) s 6), .int .u32 (blk (fun k => RV (8 + k)) (sch (mB m)) s 7)]) ∧ Below w.heap.size w w' := by
  have Hm : Hid (m.size = 64) := hm
  have hm1 : 64 ≤ m.size := by omega
  clear hm
  go_enter Tryz.func167, Tryz.ntmps167
  go_wp2
  go_loopw [8] (fun i wr => ∃ k : Nat, k ≤ 64 ∧ i = .int .i64 k ∧ RowIs wr (w.heap.size + 3) 76 64 (schTo (mB m) k) ∧ RowIs wr (w.heap.size + 2) 75 8 (fun _ => .int .u32 0) ∧ RowIs wr (w.heap.size + 1) 75 8 (fun j => .int .u32 (s j)) ∧ RowIs wr w.heap.size 78 72 (fun j => .int .u32 (RV j)) ∧ Below w.heap.size w wr)
    (fun i _ => 64 - (intOf i).toNat)
  case atStart => exact ⟨0, by omega, rfl, RowIs.of (rows4 w _ _ _ _).2.2.2.1 (row64_lit.trans (row64_zero _)), RowIs.of (rows4 w _ _ _ _).2.2.1 rfl, RowIs.of (rows4 w _ _ _ _).2.1 rfl, (rows4 w _ _ _ _).1, (rows4 w _ _ _ _).2.2.2.2⟩
  case round =>
    obtain ⟨k, hk, rfl, hX, hz, hs, hR, hbl⟩ := hrel
    by_cases hlt : k < 64
    · by_cases h16 : k < 16
      · have d1 := hX.cell hlt
        have f1 := hX.free k
        have j0 := idx_str m (4 * k) (4 * (k : Int)) (by omega) (by omega)
        have y0 := mB_u8 m (4 * k)
        have j1 := idx_str m (4 * k + 1) (4 * (k : Int) + 1) (by omega) (by omega)
        have y1 := mB_u8 m (4 * k + 1)
        have j2 := idx_str m (4 * k + 2) (4 * (k : Int) + 2) (by omega) (by omega)
        have y2 := mB_u8 m (4 * k + 2)
        have j3 := idx_str m (4 * k + 3) (4 * (k : Int) + 3) (by omega) (by omega)
        have y3 := mB_u8 m (4 * k + 3)
        go_wp2
        go_region
        go_wp2
        go_roundw
        case rel => exact ⟨k + 1, by omega, by go_num, blk_rel1 h16 hX, (hz.setOther (by show w.heap.size + 1 + 1 + 1 ≠ w.heap.size + 2; omega) _).drew, (hs.setOther (by show w.heap.size + 1 + 1 + 1 ≠ w.heap.size + 1; omega) _).drew, (hR.setOther (by show w.heap.size + 1 + 1 + 1 ≠ w.heap.size; omega) _).drew, (hbl.setCell (by show w.heap.size ≤ w.heap.size + 1 + 1 + 1; omega) _).drew⟩
        case measure => simp [intOf]; omega
      · have e0 := (hX.cell (show k - 2 < 64 by omega)).trans (congrArg some (schTo_lt (show k - 2 < k by omega)))
        have e1 := (hX.cell (show k - 7 < 64 by omega)).trans (congrArg some (schTo_lt (show k - 7 < k by omega)))
        have e2 := (hX.cell (show k - 15 < 64 by omega)).trans (congrArg some (schTo_lt (show k - 15 < k by omega)))
        have e3 := (hX.cell (show k - 16 < 64 by omega)).trans (congrArg some (schTo_lt (show k - 16 < k by omega)))
        have d1 := hX.cell hlt
        have f1 := hX.free k
        have w2 := sch_w (mB m) (k - 2)
        have w15 := sch_w (mB m) (k - 15)
        have w2a := w2.1
        have w2b := w2.2
        have w15a := w15.1
        have w15b := w15.2
        go_wp2_with (first | (go_at_call_of 215 (Value.int IntKind.i64 7); refine (right7 _ _ w15).mono ?_; rintro e wx ⟨rfl, rfl⟩) | (go_at_call_of 215 (Value.int IntKind.i64 18); refine (right18 _ _ w15).mono ?_; rintro e wx ⟨rfl, rfl⟩) | (go_at_call_of 215 (Value.int IntKind.i64 17); refine (right17 _ _ w2).mono ?_; rintro e wx ⟨rfl, rfl⟩) | (go_at_call_of 215 (Value.int IntKind.i64 19); refine (right19 _ _ w2).mono ?_; rintro e wx ⟨rfl, rfl⟩))
        go_region
        go_wp2
        go_roundw
        case rel => exact ⟨k + 1, by omega, by go_num, blk_rel2 (by omega) hX, (hz.setOther (by show w.heap.size + 1 + 1 + 1 ≠ w.heap.size + 2; omega) _).drew, (hs.setOther (by show w.heap.size + 1 + 1 + 1 ≠ w.heap.size + 1; omega) _).drew, (hR.setOther (by show w.heap.size + 1 + 1 + 1 ≠ w.heap.size; omega) _).drew, (hbl.setCell (by show w.heap.size ≤ w.heap.size + 1 + 1 + 1; omega) _).drew.drew.drew.drew.drew⟩
        case measure => simp [intOf]; omega
    · obtain rfl : k = 64 := by omega
      obtain ⟨wb, rfl⟩ : ∃ x, x = wr := ⟨_, rfl⟩
      have hX2 : RowIs wb (w.heap.size + 3) 76 64 (fun j => .int .u32 (sch (mB m) j)) := hX.congr fun j hj => schTo_lt hj
      generalize hXX : sch (mB m) = X at hX2
      have HXX : Hid (sch (mB m) = X) := hXX
      clear hXX
      clear hX hm1 Hm
      have c0 := hs.cell (show 0 < 8 by omega)
      have c1 := hs.cell (show 1 < 8 by omega)
      have c2 := hs.cell (show 2 < 8 by omega)
      have c3 := hs.cell (show 3 < 8 by omega)
      have c4 := hs.cell (show 4 < 8 by omega)
      have c5 := hs.cell (show 5 < 8 by omega)
      have c6 := hs.cell (show 6 < 8 by omega)
      have c7 := hs.cell (show 7 < 8 by omega)
      go_wp2
      clear c0 c1 c2 c3 c4 c5 c6 c7
      go_loopw [14] (fun i wr => ∃ k : Nat, k ≤ 64 ∧ i = .int .i64 k ∧ RowIs wr wb.heap.size 75 8 (fun j => .int .u32 (stt (fun k => RV (8 + k)) X s k j)) ∧ Below wb.heap.size wb wr)
        (fun i _ => 64 - (intOf i).toNat)
      case atStart => exact ⟨0, by omega, rfl, RowIs.last rfl rfl, (Below.refl _ _).alloc (Nat.le_refl _) _⟩
      case round =>
        obtain ⟨k, hk, rfl, hr, hb2⟩ := hrel
        by_cases hlt : k < 64
        · have sw := stt_w (fun k => RV (8 + k)) X hsw k
          generalize hst : stt (fun k => RV (8 + k)) X s k = st at hr sw
          have Hst : Hid (stt (fun k => RV (8 + k)) X s k = st) := hst
          have c0 := hr.cell (show 0 < 8 by omega)
          have c1 := hr.cell (show 1 < 8 by omega)
          have c2 := hr.cell (show 2 < 8 by omega)
          have c3 := hr.cell (show 3 < 8 by omega)
          have c4 := hr.cell (show 4 < 8 by omega)
          have c5 := hr.cell (show 5 < 8 by omega)
          have c6 := hr.cell (show 6 < 8 by omega)
          have c7 := hr.cell (show 7 < 8 by omega)
          have cx := (hX2.below hb2 hX2.lt).cell hlt
          have cr := (hR.below hb2 hR.lt).cell (show 8 + k < 72 by omega)
          have fr := hr.free
          have w4 := sw 4
          have w0 := sw 0
          have lk : (k : Int) < 64 := by omega
          clear hst sw
          go_wp2
          go_quiet ((first | (go_at_call_of 215 (Value.int IntKind.i64 6); refine (right6 _ _ w4).mono ?_; rintro e wx ⟨rfl, rfl⟩; first | exact ⟨rfl, _, World.drew_drewN _ _⟩ | exact ⟨rfl, _, (World.drew_drewN _ _).trans (World.drewN_congr _ (Nat.add_assoc _ _ _))⟩) | (go_at_call_of 215 (Value.int IntKind.i64 11); refine (right11 _ _ w4).mono ?_; rintro e wx ⟨rfl, rfl⟩; first | exact ⟨rfl, _, World.drew_drewN _ _⟩ | exact ⟨rfl, _, (World.drew_drewN _ _).trans (World.drewN_congr _ (Nat.add_assoc _ _ _))⟩) | (go_at_call_of 215 (Value.int IntKind.i64 25); refine (right25 _ _ w4).mono ?_; rintro e wx ⟨rfl, rfl⟩; first | exact ⟨rfl, _, World.drew_drewN _ _⟩ | exact ⟨rfl, _, (World.drew_drewN _ _).trans (World.drewN_congr _ (Nat.add_assoc _ _ _))⟩)))
          go_wp2
          go_quiet (fail)
          go_wp2
          go_quiet ((first | (go_at_call_of 215 (Value.int IntKind.i64 2); refine (right2 _ _ w0).mono ?_; rintro e wx ⟨rfl, rfl⟩; first | exact ⟨rfl, _, World.drew_drewN _ _⟩ | exact ⟨rfl, _, (World.drew_drewN _ _).trans (World.drewN_congr _ (Nat.add_assoc _ _ _))⟩) | (go_at_call_of 215 (Value.int IntKind.i64 13); refine (right13 _ _ w0).mono ?_; rintro e wx ⟨rfl, rfl⟩; first | exact ⟨rfl, _, World.drew_drewN _ _⟩ | exact ⟨rfl, _, (World.drew_drewN _ _).trans (World.drewN_congr _ (Nat.add_assoc _ _ _))⟩) | (go_at_call_of 215 (Value.int IntKind.i64 22); refine (right22 _ _ w0).mono ?_; rintro e wx ⟨rfl, rfl⟩; first | exact ⟨rfl, _, World.drew_drewN _ _⟩ | exact ⟨rfl, _, (World.drew_drewN _ _).trans (World.drewN_congr _ (Nat.add_assoc _ _ _))⟩)))
          go_wp2
          go_roundw
          case rel => exact ⟨k + 1, by omega, by go_num, blk_rel3 Hst.out (hr.drewN _) (by simp only [rnd, S1, S0, ch, mj, xr, an, nt]; omega) rfl, below_set8r (Below.drewsN hb2 _) (Nat.le_refl _) _ _ _ _ _ _ _ _⟩
          case measure => simp [intOf]; omega
        · obtain rfl : k = 64 := by omega
          have hs2 : RowIs wr (w.heap.size + 1) 75 8 (addTo s (stt (fun k => RV (8 + k)) X s 64) 0) := (hs.below hb2 hs.lt).congr fun j _ => by simp [addTo]
          have hz2 := hz.below hb2 hz.lt
          have hbs := hbl.size
          have hgs := hs.lt
          generalize hae : stt (fun k => RV (8 + k)) X s 64 = a at hr hs2
          have Hae : Hid (stt (fun k => RV (8 + k)) X s 64 = a) := hae
          clear hae hX2 hR
          have hbw := hbl.trans (hb2.mono hbs)
          clear hb2 hbl hs hz
          go_wp2
          go_loopw [20] (fun i wr => ∃ k : Nat, k ≤ 8 ∧ i = .int .i64 k ∧ RowIs wr (w.heap.size + 1) 75 8 (addTo s a k) ∧ RowIs wr wb.heap.size 75 8 (fun j => .int .u32 (a j)) ∧ RowIs wr (w.heap.size + 2) 75 8 (fun _ => .int .u32 0) ∧ Below w.heap.size w wr)
            (fun i _ => 8 - (intOf i).toNat)
          case atStart => exact ⟨0, by omega, rfl, hs2, hr, hz2, hbw⟩
          case round =>
            clear hs2 hr hz2 hbw
            obtain ⟨k, hk, rfl, hs2, hr, hz2, hbw⟩ := hrel
            by_cases hlt : k < 8
            · have c0 := (hs2.cell hlt).trans (congrArg some (addTo_at s a k))
              have c1 := hr.cell hlt
              have f0 := hs2.free k
              have lk : (k : Int) < 8 := by omega
              go_wp2
              go_region
              go_wp2
              go_roundw
              case rel =>
                have R1 := mix_rel2 hs2
                have R2 := (hr.setOther (a := ⟨w.heap.size + 1, k, none⟩) (by show w.heap.size + 1 ≠ wb.heap.size; omega) (.int .u32 ((s k + a k) % 4294967296))).drew
                have R3 := (hz2.setOther (a := ⟨w.heap.size + 1, k, none⟩) (by show w.heap.size + 1 ≠ w.heap.size + 2; omega) (.int .u32 ((s k + a k) % 4294967296))).drew
                have R4 := (hbw.setCell (p := ⟨w.heap.size + 1, k, none⟩) (by show w.heap.size ≤ w.heap.size + 1; omega) (.int .u32 ((s k + a k) % 4294967296))).drew
                first | exact ⟨k + 1, by omega, by go_num, R1, R2, R3, R4⟩ | ((repeat apply Exists.intro); exact ⟨⟨k + 1, by omega, by go_num, R1, R2, R3, R4⟩, rfl⟩)
              case measure => simp [intOf]; omega
            · obtain rfl : k = 8 := by omega
              go_wp2_with (first | (refine wpList_load_row rfl 75 (.tmp 4) rfl (w.heap.size + 1) rfl _ _ (0, 0) _ hs2 Tryz.underlying75 rfl info27 ?_) | (refine wpList_store_row rfl 75 (.tmp 6) (.tmp 210) rfl (w.heap.size + 2) _ rfl rfl _ _ hz2 info27 rfl (ints_one _ _ _) ?_))
              refine bodyPost_ret (v := .agg (rowOf 8 (addTo s a 8))) (results_cell_row Tryz.results167 _ _ (w.heap.size + 2) 75 _ (0, 0) _ rfl (hz2.setRow _) Tryz.underlying75 rfl info27) rfl ⟨?_, below_setRow' hbw (by omega) _⟩
              rw [← Hae.out, add_end, HXX.out]; rfl
end Go.Proofs.YtcjohccaigflgaaGreatDoor

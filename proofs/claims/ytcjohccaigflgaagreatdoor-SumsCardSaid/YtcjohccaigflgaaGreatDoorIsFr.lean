import Derived.Test.YtcjohccaigflgaaGreatDoorOps1
namespace Go.Proofs.YtcjohccaigflgaaGreatDoor
open Go.RowKit
set_option maxRecDepth 100000 in
theorem eqDig (W : World) : (Op.equalIn 10000 50 (.agg #[.int .u8 0, .int .u8 0, .int .u8 0]) (.agg #[.int .u8 0, .int .u8 0, .int .u8 0])).run Tryz.prog W = .ok true W := by
  kernel_rfl
set_option maxRecDepth 100000 in
set_option maxHeartbeats 1000000 in
theorem isFrame2 (hk : Int) (ss : Int) (h : (hk = 1 ∧ ss = 1) ∨ (hk = 2 ∧ ss = 4)) (w : World) : Calls Tryz.prog 55 #[.agg #[.int .i64 hk, .int .u32 ss, .int .u64 0, .int .u64 1099511627776, .int .u8 0, .int .u8 0, .int .u8 0, .slice none 0 0]] w fun e w' => e = .returned (.bool true) ∧ Below w.heap.size w w' := by
  rcases h with ⟨rfl, rfl⟩ | ⟨rfl, rfl⟩
  · go_enter Tryz.func55, Tryz.ntmps55
    go_wp2
    go_loopw [4] (fun i wr => i = .int .i64 0 ∧ Below w.heap.size w wr) (fun _ _ => 0)
    case atStart => exact ⟨rfl, (Below.refl _ _).alloc (Nat.le_refl _) _⟩
    case round =>
      obtain ⟨rfl, hbl⟩ := hrel
      go_wp2
      go_ret
      exact ⟨rfl, hbl⟩
  · have heq := eqDig
    go_enter Tryz.func55, Tryz.ntmps55
    go_wp2
    go_loopw [4] (fun i wr => i = .int .i64 0 ∧ Below w.heap.size w wr) (fun _ _ => 0)
    case atStart => exact ⟨rfl, (Below.refl _ _).alloc (Nat.le_refl _) _⟩
    case round =>
      obtain ⟨rfl, hbl⟩ := hrel
      go_wp2
      go_ret
      exact ⟨rfl, hbl⟩
theorem range_below {w w' : World} {g o B : Nat} {cs : List Value} (h : w.rangeAt g o cs) (hb : Below B w w') (hg : g < B) : w'.rangeAt g o cs := fun j v hj => (hb.cell (p := ⟨g, o + j, none⟩) hg).trans (h j v hj)
theorem cells0 {w : World} {g : Nat} {v0 v1 v2 v3 v4 v5 : Value} (h : w.rangeAt g 0 [v0, v1, v2, v3, v4, v5]) : w.cell? ⟨g, 0, none⟩ = some v0 ∧ w.cell? ⟨g, 1, none⟩ = some v1 ∧ w.cell? ⟨g, 2, none⟩ = some v2 ∧ w.cell? ⟨g, 3, none⟩ = some v3 ∧ w.cell? ⟨g, 4, none⟩ = some v4 ∧ w.cell? ⟨g, 5, none⟩ = some v5 :=
  ⟨h 0 v0 rfl, h 1 v1 rfl, h 2 v2 rfl, h 3 v3 rfl, h 4 v4 rfl, h 5 v5 rfl⟩
theorem cells6 {w : World} {g : Nat} {v0 v1 v2 v3 v4 v5 : Value} (h : w.rangeAt g 6 [v0, v1, v2, v3, v4, v5]) : w.cell? ⟨g, 6, none⟩ = some v0 ∧ w.cell? ⟨g, 7, none⟩ = some v1 ∧ w.cell? ⟨g, 8, none⟩ = some v2 ∧ w.cell? ⟨g, 9, none⟩ = some v3 ∧ w.cell? ⟨g, 10, none⟩ = some v4 ∧ w.cell? ⟨g, 11, none⟩ = some v5 :=
  ⟨h 0 v0 rfl, h 1 v1 rfl, h 2 v2 rfl, h 3 v3 rfl, h 4 v4 rfl, h 5 v5 rfl⟩
theorem keyG (k st rf ch : Value) (cl ck : Int) (h1 : 0 ≤ cl ∧ cl < 4294967296) (h2 : 0 ≤ ck ∧ ck < 4294967296) (w : World) : Calls Tryz.prog 98 #[.agg #[k, .int .u32 cl, .int .u32 ck, st, rf, ch]] w fun e w' => e = .returned (.int .u64 (cl * 1048576 + ck)) ∧ Below w.heap.size w w' := by
  obtain ⟨h3, h4⟩ := h1
  obtain ⟨h5, h6⟩ := h2
  go_enter Tryz.func98, Tryz.ntmps98
  go_wp2
  go_ret
  exact ⟨rfl, (Below.refl _ _).alloc (Nat.le_refl _) _⟩
theorem infoAOp : (Tryz.prog.info? 43).map (·.size) = some 6 := by kernel_rfl
set_option maxRecDepth 100000 in
set_option maxHeartbeats 1000000 in
theorem isFrame1 (g : Nat) (w : World) (hA : w.rangeAt g 0 [.int .i64 1, .int .u32 1, .int .u32 1, .int .u32 1, .int .u64 0, .int .i32 97]) (hB : w.rangeAt g 6 [.int .i64 1, .int .u32 1, .int .u32 2, .int .u32 2, .int .u64 1048577, .int .i32 98]) (hg : g < w.heap.size) :
    Calls Tryz.prog 55 #[.agg #[.int .i64 5, .int .u32 1, .int .u64 0, .int .u64 0, .int .u8 0, .int .u8 0, .int .u8 0, .slice (some ⟨g, 0, none⟩) 2 2]] w fun e w' => e = .returned (.bool true) ∧ Below w.heap.size w w' := by
  have heq := eqDig
  go_enter Tryz.func55, Tryz.ntmps55
  go_wp2
  go_loopw [4] (fun i wr => (i = .int .i64 0 ∨ i = .int .i64 1 ∨ i = .int .i64 2) ∧ Below (w.heap.size + 1) (w.alloc (.cells #[.int .i64 5, .int .u32 1, .int .u64 0, .int .u64 0, .int .u8 0, .int .u8 0, .int .u8 0, .slice (some ⟨g, 0, none⟩) 2 2] 58)) wr) (fun i _ => 2 - (intOf i).toNat)
  case atStart => exact ⟨Or.inl rfl, Below.refl _ _⟩
  case round =>
    obtain ⟨hi, hbl⟩ := hrel
    have hsz : w.heap.size < (w.alloc (.cells #[.int .i64 5, .int .u32 1, .int .u64 0, .int .u64 0, .int .u8 0, .int .u8 0, .int .u8 0, .slice (some ⟨g, 0, none⟩) 2 2] 58)).heap.size := by simp
    have b0 : wr.cell? ⟨w.heap.size, 0, none⟩ = some (.int .i64 5) := (hbl.cell (p := ⟨w.heap.size, 0, none⟩) (Nat.lt_succ_self _)).trans ((cell_of_row _ _ _ _ _ _ (heap_alloc_new w _)).trans rfl)
    have b7 : wr.cell? ⟨w.heap.size, 7, none⟩ = some (.slice (some ⟨g, 0, none⟩) 2 2) := (hbl.cell (p := ⟨w.heap.size, 7, none⟩) (Nat.lt_succ_self _)).trans ((cell_of_row _ _ _ _ _ _ (heap_alloc_new w _)).trans rfl)
    have hb0 : Below w.heap.size w wr := ((Below.refl _ _).alloc (Nat.le_refl _) _).trans (hbl.mono (Nat.le_succ _))
    have hA1 := range_below hA hb0 hg
    have hB1 := range_below hB hb0 hg
    have hgr := Nat.lt_of_lt_of_le hg hb0.size
    have hs1 := hbl.size
    have hs2 : w.heap.size < wr.heap.size := Nat.lt_of_lt_of_le hsz hs1
    have HX : Hid (wr.rangeAt g 0 _ ∧ wr.rangeAt g 6 _) := ⟨hA1, hB1⟩
    clear hA1 hB1 hA hB
    rcases hi with rfl | rfl | rfl
    · obtain ⟨r10, r11, r12, r13, r14, r15⟩ := cells0 (HX.out.1)
      go_wp2_with (first
        | (go_at_call 97; refine (isOpA _).mono ?_; rintro e w2 ⟨rfl, hb2⟩; obtain ⟨r20, r21, r22, r23, r24, r25⟩ := cells0 (range_below HX.out.1 hb2 hgr); have b72 := (hb2.cell hs2).trans b7)
        | (go_at_call 98; refine (keyA _).mono ?_; rintro e w3 ⟨rfl, hb3⟩; have hs3 := Nat.lt_of_lt_of_le hs2 hb2.size; have b03 := (hb3.cell hs3).trans ((hb2.cell hs2).trans b0)))
      go_roundw
      case rel => exact ⟨Or.inr (Or.inl rfl), hbl.trans ((hb2.trans (hb3.mono hb2.size)).mono hs2)⟩
      case measure => simp [intOf]
    · obtain ⟨r10, r11, r12, r13, r14, r15⟩ := cells6 (HX.out.2)
      go_wp2_with (first
        | (go_at_call 97; refine (isOpB _).mono ?_; rintro e w2 ⟨rfl, hb2⟩; obtain ⟨r20, r21, r22, r23, r24, r25⟩ := cells6 (range_below HX.out.2 hb2 hgr); have b72 := (hb2.cell hs2).trans b7)
        | (go_at_call 98; refine (keyG _ _ _ _ _ _ ⟨by decide, by decide⟩ ⟨by decide, by decide⟩ _).mono ?_; first | (clear b73; rintro e w4 ⟨rfl, hb4⟩) | (rintro e w3 ⟨rfl, hb3⟩; have hs3 := Nat.lt_of_lt_of_le hs2 hb2.size; have b03 := (hb3.cell hs3).trans ((hb2.cell hs2).trans b0); have b73 := (hb3.cell hs3).trans b72; obtain ⟨r30, r31, r32, r33, r34, r35⟩ := cells0 (range_below (range_below HX.out.1 hb2 hgr) hb3 (Nat.lt_of_lt_of_le hgr hb2.size)))))
      go_roundw
      case rel => exact ⟨Or.inr (Or.inr rfl), hbl.trans ((hb2.trans ((hb3.trans (hb4.mono hb3.size)).mono hb2.size)).mono hs2)⟩
      case measure => simp [intOf]
    · go_wp2
      go_ret
      exact ⟨rfl, hb0⟩
end Go.Proofs.YtcjohccaigflgaaGreatDoor

import Derived.Test.YtcjohccaigflgaaGreatDoorKSumS
import Derived.Test.YtcjohccaigflgaaGreatDoorLentPre
import Derived.Test.YtcjohccaigflgaaGreatDoorScript
import Derived.Test.YtcjohccaigflgaaGreatDoorKeep
import Derived.Test.YtcjohccaigflgaaGreatDoorLent
import Derived.Test.YtcjohccaigflgaaGreatDoorStill
import Derived.Deep.RegionHeld3
namespace Go.Proofs.YtcjohccaigflgaaGreatDoor
open Go.RowKit
theorem u64w (x : Int) (h : 0 ≤ x ∧ x ≤ 18446744073709551615) : IntKind.u64.wrap x = x := by
  have e : IntKind.u64.wrap x = x % 18446744073709551616 := by
    simp [IntKind.wrap, IntKind.bits, IntKind.signed]
  rw [e]; omega
theorem key_same (a c : Int) (ha : W32 a) (hc : W32 c) : (a * 1048576 + c == IntKind.u64.wrap (IntKind.u64.wrap (IntKind.u64.wrap a * 1048576) + IntKind.u64.wrap c)) = true := by
  obtain ⟨h0, h1⟩ := ha
  obtain ⟨h2, h3⟩ := hc
  rw [u64w a (by omega), u64w c (by omega), u64w (a * 1048576) (by omega), u64w (a * 1048576 + c) (by omega)]
  simp
theorem conv_dig (s : ByteArray) (g : Nat) (W : World) (h : RowIs W g 121 32 fun n => .int .u8 (dig s n)) : (convert 59 9 (.slice (some ⟨g, 0, none⟩) 32 32)).run Tryz.prog W = .ok (.string (rsumOf s)) W := by
  have e : (List.range 32).map (dig s) = outL (blks KK (mB (padM s)) RV (nblk s.size)) 32 := rfl
  have := run_convert_bytes_arg W 59 5 Tryz.underlying59 Tryz.underlying5 g 0 32 32 ((List.range 32).map (dig s)) (by simp) (fun i hi => by
    rw [Nat.zero_add, h.cell hi]; simp [hi]) _ Tryz.underlying9
  rw [e] at this
  exact this
theorem free_mk {n : Nat} (h : (n + 4) * 8 ≤ 140737488355328) : (0 : Int) ≤ (n : Int) + 1 ∧ (n : Int) + 1 ≤ 9223372036854775807 := by omega
theorem range74 {w : World} {g : Nat} {vP vH : Value} (h : RowIs w g 88 74 (wcell RV vP vH)) : w.rangeAt g 0 (rowOf 72 fun j => .int .u32 (RV j)).toList := by
  intro j v hj
  have hl : j < 72 := by
    have := (List.getElem?_eq_some_iff.1 hj).1
    simpa [rowOf_size] using this
  have hr := (RowIs.new w 88 72 fun j => .int .u32 (RV j)).cell hl
  rw [cell_of_row _ _ _ _ _ _ (heap_alloc_new w _), ← Array.getElem?_toList] at hr
  rw [Nat.zero_add, h.cell (by omega)]
  rw [← hj, hr]
  simp only [wcell, if_pos hl]
set_option maxRecDepth 100000 in
set_option maxHeartbeats 1000000 in
theorem free_any (s : ByteArray) (hs : s.size ≤ 140737488351232) (x1 x2 x4 x5 x6 x7 x8 x9 x10 x11 x12 x13 x15 x16 x17 x19 x20 x21 x22 : Value) (a c : Int) (ha : W32 a) (hc : W32 c) (wd : Nat) (vP vH : Value) (F : Nat → Prop) (H : List Nat) (w : World) (hO : WOk w wd RV vP vH F H) (hH : (H.length + 4) * 8 ≤ 140737488355328) (hg : 10 < w.heap.size) (hK : ∀ j, j < 64 → w.cell? ⟨10, j, none⟩ = some (.int .u32 (KK j))) :
   Calls Tryz.prog 59 #[.pointer (some ⟨wd, 0, none⟩), .agg #[.int .i64 1, x1, x2, .string s, x4, x5, x6, x7, x8, x9, x10, x11, x12, x13, .int .u32 c, x15, x16, x17, .int .u32 a, x19, x20, x21, x22]] w fun e w' => e = .returned (.bool true) ∧ Left w w' wd vP vH H := by
  have e1 : ((s.size : Int) + 8).toNat = s.size + 8 := by omega
  have e2 : (s.size : Int) ≤ (s.size : Int) + 8 := by omega
  have e3 : (s.size : Int).toNat = s.size := by omega
  have HK : Hid (∀ j, j < 64 → w.cell? ⟨10, j, none⟩ = some (.int .u32 (KK j))) := hK
  have hW := hO.row
  have HO : Hid (WOk w wd RV vP vH F H ∧ (H.length + 4) * 8 ≤ 140737488355328) := ⟨hO, hH⟩
  clear hK hO hH
  go_enter Tryz.func59, Tryz.ntmps59
  go_wp2_with (first
    | (go_at_call 100; refine (lent_any s hs _).mono ?_; rintro e w1 ⟨rfl, hL, hb1⟩; have k0 : w1.cell? ⟨w.heap.size, 0, none⟩ = some (.int .i64 1) := (hb1.cell (p := ⟨w.heap.size, 0, none⟩) (by simp)).trans ((cell_of_row _ _ _ _ _ _ (heap_alloc_new w _)).trans rfl); have k3 : w1.cell? ⟨w.heap.size, 3, none⟩ = some (.string s) := (hb1.cell (p := ⟨w.heap.size, 3, none⟩) (by simp)).trans ((cell_of_row _ _ _ _ _ _ (heap_alloc_new w _)).trans rfl); have k14 : w1.cell? ⟨w.heap.size, 14, none⟩ = some (.int .u32 c) := (hb1.cell (p := ⟨w.heap.size, 14, none⟩) (by simp)).trans ((cell_of_row _ _ _ _ _ _ (heap_alloc_new w _)).trans rfl); have k18 : w1.cell? ⟨w.heap.size, 18, none⟩ = some (.int .u32 a) := (hb1.cell (p := ⟨w.heap.size, 18, none⟩) (by simp)).trans ((cell_of_row _ _ _ _ _ _ (heap_alloc_new w _)).trans rfl))
    | (go_at_call 52; have hB1 : Below w.heap.size w w1 := ((Below.refl _ _).alloc (Nat.le_refl _) _).trans (hb1.mono (by simp)); refine (ksumS s hs (w.heap.size + 1) w1 (Nat.lt_of_lt_of_le hg hB1.size) (fun j hj => (hB1.cell hg).trans (HK.out j hj)) (by simpa using hL)).mono ?_; rintro e w2 ⟨rfl, hb2⟩; have hL2 := RowIs.below hL hb2 hL.lt; have hB2 := hB1.trans (hb2.mono hB1.size); have hr2 := RowIs.new w2 121 32 fun _ => .int .u8 0)
    | (refine wpList_store_row rfl 121 (.tmp 7) (.tmp 30) rfl w2.heap.size _ rfl rfl _ _ hr2 (by rw [rowOf_size]; exact info90) (by rw [rowOf_size, rowOf_size]) (ints_one _ _ _) ?_))
  have hsz1 := hb1.size
  have hB3 : Below w2.heap.size w2 (World.setRow (w2.alloc (.cells (rowOf 32 fun _ => .int .u8 0) 121)) w2.heap.size (rowOf 32 fun n => .int .u8 (dig s n))) := below_setRow' ((Below.refl _ _).alloc (Nat.le_refl _) _) (Nat.le_refl _) _
  have hD : RowIs (World.setRow (w2.alloc (.cells (rowOf 32 fun _ => .int .u8 0) 121)) w2.heap.size (rowOf 32 fun n => .int .u8 (dig s n))) w2.heap.size 121 32 fun n => .int .u8 (dig s n) := hr2.setRow _
  have hwl : w.heap.size < w1.heap.size := by simp at hsz1; omega
  have hwl2 : w.heap.size < w2.heap.size := Nat.lt_of_lt_of_le hwl hb2.size
  have m3 := (hB3.cell (p := ⟨w.heap.size, 3, none⟩) hwl2).trans ((hb2.cell (p := ⟨w.heap.size, 3, none⟩) hwl).trans k3)
  have m14 := (hB3.cell (p := ⟨w.heap.size, 14, none⟩) hwl2).trans ((hb2.cell (p := ⟨w.heap.size, 14, none⟩) hwl).trans k14)
  have m18 := (hB3.cell (p := ⟨w.heap.size, 18, none⟩) hwl2).trans ((hb2.cell (p := ⟨w.heap.size, 18, none⟩) hwl).trans k18)
  have hL3 := hL2.below hB3 hL2.lt
  have hB4 := hB2.trans (hB3.mono hB2.size)
  have hW3 := hW.below hB4 hW.lt
  show Code.wp _ _ _ _ (World.setRow (w2.alloc (.cells (rowOf 32 fun _ => .int .u8 0) 121)) w2.heap.size (rowOf 32 fun n => .int .u8 (dig s n)))
  generalize World.setRow (w2.alloc (.cells (rowOf 32 fun _ => .int .u8 0) 121)) w2.heap.size (rowOf 32 fun n => .int .u8 (dig s n)) = wA at *
  have hRg := range74 hW3
  obtain ⟨ha0, ha1⟩ := id ha
  obtain ⟨hc0, hc1⟩ := id hc
  have hkw := key_same a c ha hc
  have hml : s.size + 8 ≤ maxLen := by unfold maxLen; omega
  have hDd := hD.drew
  refine wp_region_held_drew (S := fun w' => w'.rangeAt wd 0 (rowOf 72 fun j => .int .u32 (RV j)).toList ∧ RowIs w' w2.heap.size 121 32 (fun n => .int .u8 (dig s n)) ∧ w'.cell? ⟨w.heap.size, 3, none⟩ = some (.string s) ∧ w'.cell? ⟨w.heap.size, 14, none⟩ = some (.int .u32 c) ∧ w'.cell? ⟨w.heap.size, 18, none⟩ = some (.int .u32 a)) (by kernel_rfl) ⟨hRg, hD, m3, m14, m18⟩ (fun hHeld => ?_)
  refine wpAnyH_take (i := 0) (oi := { dst := some 31, op := _, type := _, pos := _, after := _, guard := _ }) rfl (by kernel_rfl) (by kernel_rfl) (by kernel_rfl) (fun _ _ _ h => h) (Or.inl ⟨by rfl, fun w ⟨_, _, m3, m14, m18⟩ => by go_simp; rfl⟩) hHeld ?_
  simp only [Act.put, List.setIfInBounds_toArray, List.set_cons_zero, List.set_cons_succ]
  refine wpAnyH_take (i := 1) (oi := { dst := some 32, op := _, type := _, pos := _, after := _, guard := _ }) rfl (by kernel_rfl) (by kernel_rfl) (by kernel_rfl) (fun _ _ _ h => h) (Or.inl ⟨by rfl, fun w ⟨_, hD, _⟩ => by have := conv_dig s w2.heap.size w hD; go_simp; rfl⟩) hHeld ?_
  simp only [Act.put, List.setIfInBounds_toArray, List.set_cons_zero, List.set_cons_succ]
  refine wpAnyH_take (i := 2) (oi := { dst := some 33, op := _, type := _, pos := _, after := _, guard := _ }) rfl (by kernel_rfl) (by kernel_rfl) (by kernel_rfl) (fun _ _ _ h => h) (Or.inl ⟨by rfl, fun w ⟨_, _, m3, m14, m18⟩ => by go_simp; rfl⟩) hHeld ?_
  simp only [Act.put, List.setIfInBounds_toArray, List.set_cons_zero, List.set_cons_succ]
  refine wpAnyH_take (i := 3) (oi := { dst := some 34, op := _, type := _, pos := _, after := _, guard := _ }) rfl (by kernel_rfl) (by kernel_rfl) (by kernel_rfl) (fun _ _ _ h => h) (Or.inl ⟨by rfl, fun w ⟨_, _, m3, m14, m18⟩ => by go_simp; rfl⟩) hHeld ?_
  simp only [Act.put, List.setIfInBounds_toArray, List.set_cons_zero, List.set_cons_succ]
  refine wpAnyH_take (i := 4) (oi := { dst := some 35, op := _, type := _, pos := _, after := _, guard := _ }) rfl (by kernel_rfl) (by kernel_rfl) (by kernel_rfl) (fun _ _ _ h => h) (Or.inl ⟨by rfl, fun w ⟨_, _, m3, m14, m18⟩ => by go_simp; rfl⟩) hHeld ?_
  simp only [Act.put, List.setIfInBounds_toArray, List.set_cons_zero, List.set_cons_succ]
  refine wpAnyH_take (i := 5) (oi := { dst := some 36, op := _, type := _, pos := _, after := _, guard := _ }) rfl (by kernel_rfl) (by kernel_rfl) (by kernel_rfl) (fun _ _ _ h => h) (yieldsIf_load_mid (by rfl) 78 (.tmp 35) rfl wd 0 rfl (rowOf 72 fun j => .int .u32 (RV j)).toList _ (fun _ h => h.1) Tryz.underlying78 rfl (by rw [Array.length_toList, rowOf_size]; exact info30)) hHeld ?_
  simp only [Act.put, List.setIfInBounds_toArray, List.set_cons_zero, List.set_cons_succ, Array.toArray_toList]
  refine wpAnyH_take (i := 6) (oi := { dst := some 37, op := _, type := _, pos := _, after := _, guard := _ }) rfl (by kernel_rfl) (by kernel_rfl) (by kernel_rfl) (fun _ _ _ h => h) (Or.inl ⟨by rfl, fun w ⟨_, _, m3, m14, m18⟩ => by go_simp; rfl⟩) hHeld ?_
  simp only [Act.put, List.setIfInBounds_toArray, List.set_cons_zero, List.set_cons_succ]
  refine wpAnyH_take (i := 7) (oi := { dst := some 38, op := _, type := _, pos := _, after := _, guard := _ }) rfl (by kernel_rfl) (by kernel_rfl) (by kernel_rfl) (fun _ _ _ h => h) (Or.inl ⟨by rfl, fun w ⟨_, _, m3, m14, m18⟩ => by go_simp; rfl⟩) hHeld ?_
  simp only [Act.put, List.setIfInBounds_toArray, List.set_cons_zero, List.set_cons_succ]
  refine wpAnyH_ready (rs := [8]) (by kernel_rfl) (by simp) (AllReadyH.cons rfl (fun K hK => ?_) AllReadyH.nil)
  go_simp
  refine (rsum_any s (by omega) _).mono ?_
  rintro e w4 ⟨rfl, hb4⟩
  have hDlt := hD.lt
  have hWlt := hW3.lt
  have hwlA : w.heap.size < wA.heap.size := Nat.lt_of_lt_of_le hwl2 hB3.size
  refine hK.out _ _ ⟨range74 (hW3.drew.below hb4 hWlt), hD.drew.below hb4 hDlt, (hb4.cell hwlA).trans m3, (hb4.cell hwlA).trans m14, (hb4.cell hwlA).trans m18⟩ (fun hHeld => ?_)
  clear hK K
  refine wpAnyH_take (i := 9) (oi := { dst := some 40, op := _, type := _, pos := _, after := _, guard := _ }) rfl (by kernel_rfl) (by kernel_rfl) (by kernel_rfl) (fun _ _ _ h => h) (Or.inl ⟨by rfl, fun w ⟨_, _, m3, m14, m18⟩ => by go_simp; rfl⟩) hHeld ?_
  simp only [Act.put, List.setIfInBounds_toArray, List.set_cons_zero, List.set_cons_succ]
  refine wpAnyH_take (i := 10) (oi := { dst := some 41, op := _, type := _, pos := _, after := _, guard := _ }) rfl (by kernel_rfl) (by kernel_rfl) (by kernel_rfl) (fun _ _ _ h => h) (Or.inl ⟨by rfl, fun w ⟨_, _, m3, m14, m18⟩ => by go_simp; rfl⟩) hHeld ?_
  simp only [Act.put, List.setIfInBounds_toArray, List.set_cons_zero, List.set_cons_succ]
  refine wpAnyH_take (i := 11) (oi := { dst := some 42, op := _, type := _, pos := _, after := _, guard := _ }) rfl (by kernel_rfl) (by kernel_rfl) (by kernel_rfl) (fun _ _ _ h => h) (Or.inl ⟨by rfl, fun w ⟨_, _, m3, m14, m18⟩ => by go_simp; rfl⟩) hHeld ?_
  simp only [Act.put, List.setIfInBounds_toArray, List.set_cons_zero, List.set_cons_succ]
  refine wpAnyH_take (i := 12) (oi := { dst := some 43, op := _, type := _, pos := _, after := _, guard := _ }) rfl (by kernel_rfl) (by kernel_rfl) (by kernel_rfl) (fun _ _ _ h => h) (Or.inl ⟨by rfl, fun w ⟨_, _, m3, m14, m18⟩ => by go_simp; rfl⟩) hHeld ?_
  simp only [Act.put, List.setIfInBounds_toArray, List.set_cons_zero, List.set_cons_succ]
  refine wpAnyH_take (i := 13) (oi := { dst := some 44, op := _, type := _, pos := _, after := _, guard := _ }) rfl (by kernel_rfl) (by kernel_rfl) (by kernel_rfl) (fun _ _ _ h => h) (Or.inl ⟨by rfl, fun w ⟨_, _, m3, m14, m18⟩ => by go_simp; rfl⟩) hHeld ?_
  simp only [Act.put, List.setIfInBounds_toArray, List.set_cons_zero, List.set_cons_succ]
  refine wpAnyH_take (i := 14) (oi := { dst := some 45, op := _, type := _, pos := _, after := _, guard := _ }) rfl (by kernel_rfl) (by kernel_rfl) (by kernel_rfl) (fun _ _ _ h => h) (Or.inl ⟨by rfl, fun w ⟨_, _, m3, m14, m18⟩ => by go_simp; rfl⟩) hHeld ?_
  simp only [Act.put, List.setIfInBounds_toArray, List.set_cons_zero, List.set_cons_succ]
  refine wpAnyH_take (i := 15) (oi := { dst := some 46, op := _, type := _, pos := _, after := _, guard := _ }) rfl (by kernel_rfl) (by kernel_rfl) (by kernel_rfl) (fun _ _ _ h => h) (Or.inl ⟨by rfl, fun w ⟨_, _, m3, m14, m18⟩ => by go_simp; rfl⟩) hHeld ?_
  simp only [Act.put, List.setIfInBounds_toArray, List.set_cons_zero, List.set_cons_succ]
  refine wpAnyH_take (i := 17) (oi := { dst := some 48, op := _, type := _, pos := _, after := _, guard := _ }) rfl (by kernel_rfl) (by kernel_rfl) (by kernel_rfl) (fun _ _ _ h => h) (Or.inl ⟨by rfl, fun w ⟨_, _, m3, m14, m18⟩ => by go_simp; rfl⟩) hHeld ?_
  simp only [Act.put, List.setIfInBounds_toArray, List.set_cons_zero, List.set_cons_succ]
  refine wpAnyH_take (i := 18) (oi := { dst := some 49, op := _, type := _, pos := _, after := _, guard := _ }) rfl (by kernel_rfl) (by kernel_rfl) (by kernel_rfl) (fun _ _ _ h => h) (Or.inl ⟨by rfl, fun w ⟨_, _, m3, m14, m18⟩ => by go_simp; rfl⟩) hHeld ?_
  simp only [Act.put, List.setIfInBounds_toArray, List.set_cons_zero, List.set_cons_succ]
  refine wpAnyH_take (i := 19) (oi := { dst := some 50, op := _, type := _, pos := _, after := _, guard := _ }) rfl (by kernel_rfl) (by kernel_rfl) (by kernel_rfl) (fun _ _ _ h => h) (Or.inl ⟨by rfl, fun w ⟨_, _, m3, m14, m18⟩ => by go_simp; rfl⟩) hHeld ?_
  simp only [Act.put, List.setIfInBounds_toArray, List.set_cons_zero, List.set_cons_succ]
  refine wpAnyH_take (i := 20) (oi := { dst := some 51, op := _, type := _, pos := _, after := _, guard := _ }) rfl (by kernel_rfl) (by kernel_rfl) (by kernel_rfl) (fun _ _ _ h => h) (Or.inl ⟨by rfl, fun w ⟨_, _, m3, m14, m18⟩ => by go_simp; rfl⟩) hHeld ?_
  simp only [Act.put, List.setIfInBounds_toArray, List.set_cons_zero, List.set_cons_succ]
  refine wpAnyH_take (i := 21) (oi := { dst := some 52, op := _, type := _, pos := _, after := _, guard := _ }) rfl (by kernel_rfl) (by kernel_rfl) (by kernel_rfl) (fun _ _ _ h => h) (Or.inl ⟨by rfl, fun w ⟨_, _, m3, m14, m18⟩ => by go_simp; rfl⟩) hHeld ?_
  simp only [Act.put, List.setIfInBounds_toArray, List.set_cons_zero, List.set_cons_succ]
  refine wpAnyH_take (i := 22) (oi := { dst := some 53, op := _, type := _, pos := _, after := _, guard := _ }) rfl (by kernel_rfl) (by kernel_rfl) (by kernel_rfl) (fun _ _ _ h => h) (Or.inl ⟨by rfl, fun w ⟨_, _, m3, m14, m18⟩ => by go_simp; rfl⟩) hHeld ?_
  simp only [Act.put, List.setIfInBounds_toArray, List.set_cons_zero, List.set_cons_succ]
  refine wpAnyH_take (i := 23) (oi := { dst := some 54, op := _, type := _, pos := _, after := _, guard := _ }) rfl (by kernel_rfl) (by kernel_rfl) (by kernel_rfl) (fun _ _ _ h => h) (Or.inl ⟨by rfl, fun w ⟨_, _, m3, m14, m18⟩ => by go_simp; rfl⟩) hHeld ?_
  simp only [Act.put, List.setIfInBounds_toArray, List.set_cons_zero, List.set_cons_succ]
  refine wpAnyH_take (i := 24) (oi := { dst := some 55, op := _, type := _, pos := _, after := _, guard := _ }) rfl (by kernel_rfl) (by kernel_rfl) (by kernel_rfl) (fun _ _ _ h => h) (Or.inl ⟨by rfl, fun w ⟨_, _, m3, m14, m18⟩ => by go_simp; rfl⟩) hHeld ?_
  simp only [Act.put, List.setIfInBounds_toArray, List.set_cons_zero, List.set_cons_succ]
  refine wpAnyH_take (i := 25) (oi := { dst := some 56, op := _, type := _, pos := _, after := _, guard := _ }) rfl (by kernel_rfl) (by kernel_rfl) (by kernel_rfl) (fun _ _ _ h => h) (Or.inl ⟨by rfl, fun w ⟨_, _, m3, m14, m18⟩ => by go_simp; rfl⟩) hHeld ?_
  simp only [Act.put, List.setIfInBounds_toArray, List.set_cons_zero, List.set_cons_succ]
  refine wpAnyH_ready (rs := [16]) (by kernel_rfl) (by simp) (AllReadyH.cons rfl (fun K hK => ?_) AllReadyH.nil)
  go_simp
  refine (key_any a c _ ha hc).mono ?_
  rintro e w5 ⟨rfl, rfl⟩
  refine hK.out _ _ hHeld (fun hHeld => ?_)
  clear hK K
  refine wpAnyH_take (i := 26) (oi := { dst := some 57, op := _, type := _, pos := _, after := _, guard := _ }) rfl (by kernel_rfl) (by kernel_rfl) (by kernel_rfl) (fun _ _ _ h => h) (Or.inl ⟨by rfl, fun w ⟨_, _, m3, m14, m18⟩ => by go_simp; rfl⟩) hHeld ?_
  simp only [Act.put, List.setIfInBounds_toArray, List.set_cons_zero, List.set_cons_succ]
  refine wpAnyH_take (i := 27) (oi := { dst := some 58, op := _, type := _, pos := _, after := _, guard := _ }) rfl (by kernel_rfl) (by kernel_rfl) (by kernel_rfl) (fun _ _ _ h => h) (Or.inl ⟨by rfl, fun w ⟨_, _, m3, m14, m18⟩ => by go_simp; rfl⟩) hHeld ?_
  simp only [Act.put, List.setIfInBounds_toArray, List.set_cons_zero, List.set_cons_succ]
  refine wpAnyH_ready (rs := [28]) (by kernel_rfl) (by simp) (AllReadyH.cons rfl (fun K hK => ?_) AllReadyH.nil)
  go_simp
  refine hK.out _ _ hHeld (fun hHeld => ?_)
  clear hK K
  refine wpAnyH_done (by kernel_rfl) ?_ _
  have hL5 : RowIs w5 (w.heap.size + 1) 5 (s.size + 8) (lentC s (s.size + 8)) := by simpa using hL3.drew.below hb4 hL3.lt
  have hB5 : Below w.heap.size w w5 := hB4.drew.trans (hb4.mono hB4.size)
  have HL5 : Hid (RowIs w5 (w.heap.size + 1) 5 (s.size + 8) (lentC s (s.size + 8))) := hL5
  clear hHeld hL5 hL3 hL2 hL hb1 hsz1 k0 k3 k14 k18 m3 m14 m18 hRg hDd hD hr2 hW3 hB3 hb2 hB1 hB2 hB4 hb4
  go_wp2_with (first
    | (go_at_call 105; refine (still_any s (w.heap.size + 1) (s.size + 8) hs _ (fun i hi => HL5.out.cell hi)).mono ?_; rintro e w6 ⟨rfl, nq, rfl⟩)
    | (go_at_call 66; obtain ⟨p, hx, hBk⟩ := lent_pre HO.out.1 (Below.drewsK hB5 nq) (HL5.out.drewM nq) (Nat.le_succ _) _ rfl; have hraw := lent_raw (HL5.out.drewM nq) hml rfl; refine (keep_any p hraw HO.out.2 (by omega) (by decide) (by decide)).mono ?_; rintro e w7 ⟨rfl, n1, n2, n3, vH', hs', g, V1, V2, V3, ls, k⟩))
  go_ret
  exact ⟨rfl, Left.of_keep hBk p k (free_mk HO.out.2) hx⟩
end Go.Proofs.YtcjohccaigflgaaGreatDoor

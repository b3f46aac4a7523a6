import Derived.Test.YtgccjefbedpmpaaGreatDoorGSame
import Derived.Test.YtgccjefbedpmpaaGreatDoorGLeft
import Derived.Test.YtgccjefbedpmpaaGreatDoorGScript
import Derived.Test.YtgccjefbedpmpaaGreatDoorGApp
import Derived.Test.YtgccjefbedpmpaaGreatDoorGLent
import Derived.Deep.RegionHeld3
import Derived.Test.YtgccjefbedpmpaaGreatDoorZPack
namespace Go.Proofs.YtgccjefbedpmpaaGreatDoor
open Go.RowKit
theorem u64w (x : Int) (h : 0 ≤ x ∧ x ≤ 18446744073709551615) : IntKind.u64.wrap x = x := by
  have e : IntKind.u64.wrap x = x % 18446744073709551616 := by
    simp [IntKind.wrap, IntKind.bits, IntKind.signed]
  rw [e]; omega
theorem key_same (a c : Int) (ha : W32 a) (hc : W32 c) : (a * 1048576 + c == IntKind.u64.wrap (IntKind.u64.wrap (IntKind.u64.wrap a * 1048576) + IntKind.u64.wrap c)) = true := by
  obtain ⟨h0, h1⟩ := ha
  obtain ⟨h2, h3⟩ := hc
  rw [u64w a (by omega), u64w c (by omega), u64w (a * 1048576) (by omega), u64w (a * 1048576 + c) (by omega)]
  simp
theorem conv_dig (s : ByteArray) (g : Nat) (W : World) (h : RowIs W g 137 32 fun n => .int .u8 (dig s n)) : (convert 59 9 (.slice (some ⟨g, 0, none⟩) 32 32)).run Tryz.prog W = .ok (.string (rsumOf s)) W := by
  have e : (List.range 32).map (dig s) = outL (blks KK (mB (padM s)) RV (nblk s.size)) 32 := rfl
  have := run_convert_bytes_arg W 59 5 Tryz.underlying59 Tryz.underlying5 g 0 32 32 ((List.range 32).map (dig s)) (by simp) (fun i hi => by
    rw [Nat.zero_add, h.cell hi]; simp [hi]) _ Tryz.underlying9
  rw [e] at this
  exact this
theorem free_mk {n : Nat} (h : (n + 4) * 8 ≤ 140737488355328) : (0 : Int) ≤ (n : Int) + 1 ∧ (n : Int) + 1 ≤ 9223372036854775807 := by omega
theorem range74 {w : World} {g : Nat} {vP vH : Value} (h : RowIs w g 90 74 (wcell RV vP vH)) : w.rangeAt g 0 (rowOf 72 fun j => .int .u32 (RV j)).toList := by
  intro j v hj
  have hl : j < 72 := by
    have := (List.getElem?_eq_some_iff.1 hj).1
    simpa [rowOf_size] using this
  have hr := (RowIs.new w 90 72 fun j => .int .u32 (RV j)).cell hl
  rw [cell_of_row _ _ _ _ _ _ (heap_alloc_new w _), ← Array.getElem?_toList] at hr
  rw [Nat.zero_add, h.cell (by omega)]
  rw [← hj, hr]
  simp only [wcell, if_pos hl]
set_option maxRecDepth 100000 in
set_option maxHeartbeats 1000000 in
theorem free_any (s : ByteArray) (hs : s.size ≤ 140737488351232) (x1 x2 x4 x5 x6 x7 x8 x9 x10 x11 x12 x13 x15 x16 x17 x19 x20 x21 x22 : Value) (a c : Int) (ha : W32 a) (hc : W32 c) (wd : Nat) (vP vH : Value) (F : Nat → Prop) (H : List Nat) (w : World) (hO : WOk w wd RV vP vH F H) (hH : (H.length + 4) * 8 ≤ 140737488355328) (hg : 11 < w.heap.size) (hK : ∀ j, j < 64 → w.cell? ⟨11, j, none⟩ = some (.int .u32 (KK j))) :
   Calls Tryz.prog 76 #[.pointer (some ⟨wd, 0, none⟩), .agg #[.int .i64 1, x1, x2, .string s, x4, x5, x6, x7, x8, x9, x10, x11, x12, x13, .int .u32 c, x15, x16, x17, .int .u32 a, x19, x20, x21, x22]] w fun e w' => e = .returned (.bool true) ∧ Left w w' wd vP vH H := by
  have e1 : ((s.size : Int) + 8).toNat = s.size + 8 := by omega
  have e2 : (s.size : Int) ≤ (s.size : Int) + 8 := by omega
  have e3 : (s.size : Int).toNat = s.size := by omega
  have HK : Hid (∀ j, j < 64 → w.cell? ⟨11, j, none⟩ = some (.int .u32 (KK j))) := hK
  have hW := hO.row
  have HO : Hid (WOk w wd RV vP vH F H ∧ (H.length + 4) * 8 ≤ 140737488355328) := ⟨hO, hH⟩
  clear hK hO hH
  go_enter Tryz.func76, Tryz.ntmps76
  go_wp2_with (first
    | (go_at_call 126; refine (lent_any s hs _).mono ?_; rintro e w1 ⟨rfl, hL, hb1⟩; have k0 : w1.cell? ⟨w.heap.size, 0, none⟩ = some (.int .i64 1) := (hb1.cell (p := ⟨w.heap.size, 0, none⟩) (by simp)).trans ((cell_of_row _ _ _ _ _ _ (heap_alloc_new w _)).trans rfl); have k3 : w1.cell? ⟨w.heap.size, 3, none⟩ = some (.string s) := (hb1.cell (p := ⟨w.heap.size, 3, none⟩) (by simp)).trans ((cell_of_row _ _ _ _ _ _ (heap_alloc_new w _)).trans rfl); have k14 : w1.cell? ⟨w.heap.size, 14, none⟩ = some (.int .u32 c) := (hb1.cell (p := ⟨w.heap.size, 14, none⟩) (by simp)).trans ((cell_of_row _ _ _ _ _ _ (heap_alloc_new w _)).trans rfl); have k18 : w1.cell? ⟨w.heap.size, 18, none⟩ = some (.int .u32 a) := (hb1.cell (p := ⟨w.heap.size, 18, none⟩) (by simp)).trans ((cell_of_row _ _ _ _ _ _ (heap_alloc_new w _)).trans rfl))
    | (go_at_call 68; have hB1 : Below w.heap.size w w1 := ((Below.refl _ _).alloc (Nat.le_refl _) _).trans (hb1.mono (by simp)); refine (ksumS s hs (w.heap.size + 1) w1 (Nat.lt_of_lt_of_le hg hB1.size) (fun j hj => (hB1.cell hg).trans (HK.out j hj)) (by simpa using hL)).mono ?_; rintro e w2 ⟨rfl, hb2⟩; have hL2 := RowIs.below hL hb2 hL.lt; have hB2 := hB1.trans (hb2.mono hB1.size); have hr2 := RowIs.new w2 137 32 fun _ => .int .u8 0)
    | (refine wpList_store_row rfl 137 (.tmp 7) (.tmp 30) rfl w2.heap.size _ rfl rfl _ _ hr2 (by rw [rowOf_size]; exact info90) (by rw [rowOf_size, rowOf_size]) (ints_one _ _ _) ?_))
  have hsz1 := hb1.size
  have hB3 : Below w2.heap.size w2 (World.setRow (w2.alloc (.cells (rowOf 32 fun _ => .int .u8 0) 137)) w2.heap.size (rowOf 32 fun n => .int .u8 (dig s n))) := below_setRow' ((Below.refl _ _).alloc (Nat.le_refl _) _) (Nat.le_refl _) _
  have hD : RowIs (World.setRow (w2.alloc (.cells (rowOf 32 fun _ => .int .u8 0) 137)) w2.heap.size (rowOf 32 fun n => .int .u8 (dig s n))) w2.heap.size 137 32 fun n => .int .u8 (dig s n) := hr2.setRow _
  have hwl : w.heap.size < w1.heap.size := by simp at hsz1; omega
  have hwl2 : w.heap.size < w2.heap.size := Nat.lt_of_lt_of_le hwl hb2.size
  have m3 := (hB3.cell (p := ⟨w.heap.size, 3, none⟩) hwl2).trans ((hb2.cell (p := ⟨w.heap.size, 3, none⟩) hwl).trans k3)
  have m14 := (hB3.cell (p := ⟨w.heap.size, 14, none⟩) hwl2).trans ((hb2.cell (p := ⟨w.heap.size, 14, none⟩) hwl).trans k14)
  have m18 := (hB3.cell (p := ⟨w.heap.size, 18, none⟩) hwl2).trans ((hb2.cell (p := ⟨w.heap.size, 18, none⟩) hwl).trans k18)
  have hL3 := hL2.below hB3 hL2.lt
  have hB4 := hB2.trans (hB3.mono hB2.size)
  have hW3 := hW.below hB4 hW.lt
  show Code.wp _ _ _ _ (World.setRow (w2.alloc (.cells (rowOf 32 fun _ => .int .u8 0) 137)) w2.heap.size (rowOf 32 fun n => .int .u8 (dig s n)))
  generalize World.setRow (w2.alloc (.cells (rowOf 32 fun _ => .int .u8 0) 137)) w2.heap.size (rowOf 32 fun n => .int .u8 (dig s n)) = wA at *
  have hRg := range74 hW3
  obtain ⟨ha0, ha1⟩ := id ha
  obtain ⟨hc0, hc1⟩ := id hc
  have hkw := key_same a c ha hc
  have hml : s.size + 8 ≤ maxLen := by unfold maxLen; omega
  have hDd := hD.drew
  refine wp_region_held_drew (S := fun w' => w'.rangeAt wd 0 (rowOf 72 fun j => .int .u32 (RV j)).toList ∧ RowIs w' w2.heap.size 137 32 (fun n => .int .u8 (dig s n)) ∧ w'.cell? ⟨w.heap.size, 3, none⟩ = some (.string s) ∧ w'.cell? ⟨w.heap.size, 14, none⟩ = some (.int .u32 c) ∧ w'.cell? ⟨w.heap.size, 18, none⟩ = some (.int .u32 a)) (by kernel_rfl) ⟨hRg, hD, m3, m14, m18⟩ (fun hHeld => ?_)
  refine wpAnyH_take (i := 0) (oi := { dst := some 31, op := _, type := _, pos := _, after := _, guard := _ }) rfl (by kernel_rfl) (by kernel_rfl) (by kernel_rfl) (fun _ _ _ h => h) (Or.inl ⟨by rfl, fun w ⟨_, _, m3, m14, m18⟩ => by go_simp; rfl⟩) hHeld ?_
  simp only [Act.put, List.setIfInBounds_toArray, List.set_cons_zero, List.set_cons_succ]
  refine wpAnyH_take (i := 1) (oi := { dst := some 32, op := _, type := _, pos := _, after := _, guard := _ }) rfl (by kernel_rfl) (by kernel_rfl) (by kernel_rfl) (fun _ _ _ h => h) (Or.inl ⟨by rfl, fun w ⟨_, hD, _⟩ => by have := conv_dig s w2.heap.size w hD; go_simp; rfl⟩) hHeld ?_
  simp only [Act.put, List.setIfInBounds_toArray, List.set_cons_zero, List.set_cons_succ]
  refine wpAnyH_take (i := 2) (oi := { dst := some 33, op := _, type := _, pos := _, after := _, guard := _ }) rfl (by kernel_rfl) (by kernel_rfl) (by kernel_rfl) (fun _ _ _ h => h) (Or.inl ⟨by rfl, fun w ⟨_, _, m3, m14, m18⟩ => by go_simp; rfl⟩) hHeld ?_
  simp only [Act.put, List.setIfInBounds_toArray, List.set_cons_zero, List.set_cons_succ]
  refine wpAnyH_take (i := 3) (oi := { dst := some 34, op := _, type := _, pos := _, after := _, guard := _ }) rfl (by kernel_rfl) (by kernel_rfl) (by kernel_rfl) (fun _ _ _ h => h) (Or.inl ⟨by rfl, fun w ⟨_, _, m3, m14, m18⟩ => by go_simp; rfl⟩) hHeld ?_
  simp only [Act.put, List.setIfInBounds_toArray, List.set_cons_zero, List.set_cons_succ]
  refine wpAnyH_take (i := 4) (oi := { dst := some 35, op := _, type := _, pos := _, after := _, guard := _ }) rfl (by kernel_rfl) (by kernel_rfl) (by kernel_rfl) (fun _ _ _ h => h) (Or.inl ⟨by rfl, fun w ⟨_, _, m3, m14, m18⟩ => by go_simp; rfl⟩) hHeld ?_
  simp only [Act.put, List.setIfInBounds_toArray, List.set_cons_zero, List.set_cons_succ]
  refine wpAnyH_take (i := 5) (oi := { dst := some 36, op := _, type := _, pos := _, after := _, guard := _ }) rfl (by kernel_rfl) (by kernel_rfl) (by kernel_rfl) (fun _ _ _ h => h) (yieldsIf_load_mid (by rfl) 80 (.tmp 35) rfl wd 0 rfl (rowOf 72 fun j => .int .u32 (RV j)).toList _ (fun _ h => h.1) Tryz.underlying80 rfl (by rw [Array.length_toList, rowOf_size]; exact info30)) hHeld ?_
  simp only [Act.put, List.setIfInBounds_toArray, List.set_cons_zero, List.set_cons_succ, Array.toArray_toList]
  refine wpAnyH_take (i := 6) (oi := { dst := some 37, op := _, type := _, pos := _, after := _, guard := _ }) rfl (by kernel_rfl) (by kernel_rfl) (by kernel_rfl) (fun _ _ _ h => h) (Or.inl ⟨by rfl, fun w ⟨_, _, m3, m14, m18⟩ => by go_simp; rfl⟩) hHeld ?_
  simp only [Act.put, List.setIfInBounds_toArray, List.set_cons_zero, List.set_cons_succ]
  refine wpAnyH_take (i := 7) (oi := { dst := some 38, op := _, type := _, pos := _, after := _, guard := _ }) rfl (by kernel_rfl) (by kernel_rfl) (by kernel_rfl) (fun _ _ _ h => h) (Or.inl ⟨by rfl, fun w ⟨_, _, m3, m14, m18⟩ => by go_simp; rfl⟩) hHeld ?_
  simp only [Act.put, List.setIfInBounds_toArray, List.set_cons_zero, List.set_cons_succ]
  refine wpAnyH_ready (rs := [8]) (by kernel_rfl) (by simp) (AllReadyH.cons rfl (fun K hK => ?_) AllReadyH.nil)
  go_simp
  refine (rsum_any s (by omega) _).mono ?_
  rintro e w4 ⟨rfl, hb4⟩
  have hDlt := hD.lt
  have hWlt := hW3.lt
  have hwlA : w.heap.size < wA.heap.size := Nat.lt_of_lt_of_le hwl2 hB3.size
  refine hK.out _ _ ⟨range74 (hW3.drew.below hb4 hWlt), hD.drew.below hb4 hDlt, (hb4.cell hwlA).trans m3, (hb4.cell hwlA).trans m14, (hb4.cell hwlA).trans m18⟩ (fun hHeld => ?_)
  clear hK K
  refine wpAnyH_take (i := 9) (oi := { dst := some 40, op := _, type := _, pos := _, after := _, guard := _ }) rfl (by kernel_rfl) (by kernel_rfl) (by kernel_rfl) (fun _ _ _ h => h) (Or.inl ⟨by rfl, fun w ⟨_, _, m3, m14, m18⟩ => by go_simp; rfl⟩) hHeld ?_
  simp only [Act.put, List.setIfInBounds_toArray, List.set_cons_zero, List.set_cons_succ]
  refine wpAnyH_take (i := 10) (oi := { dst := some 41, op := _, type := _, pos := _, after := _, guard := _ }) rfl (by kernel_rfl) (by kernel_rfl) (by kernel_rfl) (fun _ _ _ h => h) (Or.inl ⟨by rfl, fun w ⟨_, _, m3, m14, m18⟩ => by go_simp; rfl⟩) hHeld ?_
  simp only [Act.put, List.setIfInBounds_toArray, List.set_cons_zero, List.set_cons_succ]
  refine wpAnyH_take (i := 11) (oi := { dst := some 42, op := _, type := _, pos := _, after := _, guard := _ }) rfl (by kernel_rfl) (by kernel_rfl) (by kernel_rfl) (fun _ _ _ h => h) (Or.inl ⟨by rfl, fun w ⟨_, _, m3, m14, m18⟩ => by go_simp; rfl⟩) hHeld ?_
  simp only [Act.put, List.setIfInBounds_toArray, List.set_cons_zero, List.set_cons_succ]
  refine wpAnyH_take (i := 12) (oi := { dst := some 43, op := _, type := _, pos := _, after := _, guard := _ }) rfl (by kernel_rfl) (by kernel_rfl) (by kernel_rfl) (fun _ _ _ h => h) (Or.inl ⟨by rfl, fun w ⟨_, _, m3, m14, m18⟩ => by go_simp; rfl⟩) hHeld ?_
  simp only [Act.put, List.setIfInBounds_toArray, List.set_cons_zero, List.set_cons_succ]
  refine wpAnyH_take (i := 13) (oi := { dst := some 44, op := _, type := _, pos := _, after := _, guard := _ }) rfl (by kernel_rfl) (by kernel_rfl) (by kernel_rfl) (fun _ _ _ h => h) (Or.inl ⟨by rfl, fun w ⟨_, _, m3, m14, m18⟩ => by go_simp; rfl⟩) hHeld ?_
  simp only [Act.put, List.setIfInBounds_toArray, List.set_cons_zero, List.set_cons_succ]
  refine wpAnyH_take (i := 14) (oi := { dst := some 45, op := _, type := _, pos := _, after := _, guard := _ }) rfl (by kernel_rfl) (by kernel_rfl) (by kernel_rfl) (fun _ _ _ h => h) (Or.inl ⟨by rfl, fun w ⟨_, _, m3, m14, m18⟩ => by go_simp; rfl⟩) hHeld ?_
  simp only [Act.put, List.setIfInBounds_toArray, List.set_cons_zero, List.set_cons_succ]
  refine wpAnyH_take (i := 15) (oi := { dst := some 46, op := _, type := _, pos := _, after := _, guard := _ }) rfl (by kernel_rfl) (by kernel_rfl) (by kernel_rfl) (fun _ _ _ h => h) (Or.inl ⟨by rfl, fun w ⟨_, _, m3, m14, m18⟩ => by go_simp; rfl⟩) hHeld ?_
  simp only [Act.put, List.setIfInBounds_toArray, List.set_cons_zero, List.set_cons_succ]
  refine wpAnyH_take (i := 17) (oi := { dst := some 48, op := _, type := _, pos := _, after := _, guard := _ }) rfl (by kernel_rfl) (by kernel_rfl) (by kernel_rfl) (fun _ _ _ h => h) (Or.inl ⟨by rfl, fun w ⟨_, _, m3, m14, m18⟩ => by go_simp; rfl⟩) hHeld ?_
  simp only [Act.put, List.setIfInBounds_toArray, List.set_cons_zero, List.set_cons_succ]
  refine wpAnyH_take (i := 18) (oi := { dst := some 49, op := _, type := _, pos := _, after := _, guard := _ }) rfl (by kernel_rfl) (by kernel_rfl) (by kernel_rfl) (fun _ _ _ h => h) (Or.inl ⟨by rfl, fun w ⟨_, _, m3, m14, m18⟩ => by go_simp; rfl⟩) hHeld ?_
  simp only [Act.put, List.setIfInBounds_toArray, List.set_cons_zero, List.set_cons_succ]
  refine wpAnyH_take (i := 19) (oi := { dst := some 50, op := _, type := _, pos := _, after := _, guard := _ }) rfl (by kernel_rfl) (by kernel_rfl) (by kernel_rfl) (fun _ _ _ h => h) (Or.inl ⟨by rfl, fun w ⟨_, _, m3, m14, m18⟩ => by go_simp; rfl⟩) hHeld ?_
  simp only [Act.put, List.setIfInBounds_toArray, List.set_cons_zero, List.set_cons_succ]
  refine wpAnyH_take (i := 20) (oi := { dst := some 51, op := _, type := _, pos := _, after := _, guard := _ }) rfl (by kernel_rfl) (by kernel_rfl) (by kernel_rfl) (fun _ _ _ h => h) (Or.inl ⟨by rfl, fun w ⟨_, _, m3, m14, m18⟩ => by go_simp; rfl⟩) hHeld ?_
  simp only [Act.put, List.setIfInBounds_toArray, List.set_cons_zero, List.set_cons_succ]
  refine wpAnyH_take (i := 21) (oi := { dst := some 52, op := _, type := _, pos := _, after := _, guard := _ }) rfl (by kernel_rfl) (by kernel_rfl) (by kernel_rfl) (fun _ _ _ h => h) (Or.inl ⟨by rfl, fun w ⟨_, _, m3, m14, m18⟩ => by go_simp; rfl⟩) hHeld ?_
  simp only [Act.put, List.setIfInBounds_toArray, List.set_cons_zero, List.set_cons_succ]
  refine wpAnyH_take (i := 22) (oi := { dst := some 53, op := _, type := _, pos := _, after := _, guard := _ }) rfl (by kernel_rfl) (by kernel_rfl) (by kernel_rfl) (fun _ _ _ h => h) (Or.inl ⟨by rfl, fun w ⟨_, _, m3, m14, m18⟩ => by go_simp; rfl⟩) hHeld ?_
  simp only [Act.put, List.setIfInBounds_toArray, List.set_cons_zero, List.set_cons_succ]
  refine wpAnyH_take (i := 23) (oi := { dst := some 54, op := _, type := _, pos := _, after := _, guard := _ }) rfl (by kernel_rfl) (by kernel_rfl) (by kernel_rfl) (fun _ _ _ h => h) (Or.inl ⟨by rfl, fun w ⟨_, _, m3, m14, m18⟩ => by go_simp; rfl⟩) hHeld ?_
  simp only [Act.put, List.setIfInBounds_toArray, List.set_cons_zero, List.set_cons_succ]
  refine wpAnyH_take (i := 24) (oi := { dst := some 55, op := _, type := _, pos := _, after := _, guard := _ }) rfl (by kernel_rfl) (by kernel_rfl) (by kernel_rfl) (fun _ _ _ h => h) (Or.inl ⟨by rfl, fun w ⟨_, _, m3, m14, m18⟩ => by go_simp; rfl⟩) hHeld ?_
  simp only [Act.put, List.setIfInBounds_toArray, List.set_cons_zero, List.set_cons_succ]
  refine wpAnyH_take (i := 25) (oi := { dst := some 56, op := _, type := _, pos := _, after := _, guard := _ }) rfl (by kernel_rfl) (by kernel_rfl) (by kernel_rfl) (fun _ _ _ h => h) (Or.inl ⟨by rfl, fun w ⟨_, _, m3, m14, m18⟩ => by go_simp; rfl⟩) hHeld ?_
  simp only [Act.put, List.setIfInBounds_toArray, List.set_cons_zero, List.set_cons_succ]
  refine wpAnyH_ready (rs := [16]) (by kernel_rfl) (by simp) (AllReadyH.cons rfl (fun K hK => ?_) AllReadyH.nil)
  go_simp
  refine (key_any a c _ ha hc).mono ?_
  rintro e w5 ⟨rfl, rfl⟩
  refine hK.out _ _ hHeld (fun hHeld => ?_)
  clear hK K
  refine wpAnyH_take (i := 26) (oi := { dst := some 57, op := _, type := _, pos := _, after := _, guard := _ }) rfl (by kernel_rfl) (by kernel_rfl) (by kernel_rfl) (fun _ _ _ h => h) (Or.inl ⟨by rfl, fun w ⟨_, _, m3, m14, m18⟩ => by go_simp; rfl⟩) hHeld ?_
  simp only [Act.put, List.setIfInBounds_toArray, List.set_cons_zero, List.set_cons_succ]
  refine wpAnyH_take (i := 27) (oi := { dst := some 58, op := _, type := _, pos := _, after := _, guard := _ }) rfl (by kernel_rfl) (by kernel_rfl) (by kernel_rfl) (fun _ _ _ h => h) (Or.inl ⟨by rfl, fun w ⟨_, _, m3, m14, m18⟩ => by go_simp; rfl⟩) hHeld ?_
  simp only [Act.put, List.setIfInBounds_toArray, List.set_cons_zero, List.set_cons_succ]
  refine wpAnyH_ready (rs := [28]) (by kernel_rfl) (by simp) (AllReadyH.cons rfl (fun K hK => ?_) AllReadyH.nil)
  go_simp
  refine hK.out _ _ hHeld (fun hHeld => ?_)
  clear hK K
  refine wpAnyH_done (by kernel_rfl) ?_ _
  have hL5 : RowIs w5 (w.heap.size + 1) 5 (s.size + 8) (lentC s (s.size + 8)) := by simpa using hL3.drew.below hb4 hL3.lt
  have hB5 : Below w.heap.size w w5 := hB4.drew.trans (hb4.mono hB4.size)
  have HL5 : Hid (RowIs w5 (w.heap.size + 1) 5 (s.size + 8) (lentC s (s.size + 8))) := hL5
  clear hHeld hL5 hL3 hL2 hL hb1 hsz1 k0 k3 k14 k18 m3 m14 m18 hRg hDd hD hr2 hW3 hB3 hb2 hB1 hB2 hB4 hb4
  go_wp2_with (first
    | (go_at_call 131; refine (still_any s (w.heap.size + 1) (s.size + 8) hs _ (fun i hi => HL5.out.cell hi)).mono ?_; rintro e w6 ⟨rfl, nq, rfl⟩)
    | (go_at_call 83; obtain ⟨p, hx, hBk⟩ := lent_pre HO.out.1 (Below.drewsK hB5 nq) (HL5.out.drewM nq) (Nat.le_succ _) _ rfl; have hraw := lent_raw (HL5.out.drewM nq) hml rfl; refine (keep_any p hraw HO.out.2 (by omega) (by decide) (by decide)).mono ?_; rintro e w7 ⟨rfl, n1, n2, n3, vH', hs', g, V1, V2, V3, ls, k⟩))
  go_ret
  exact ⟨rfl, Left.of_keep hBk p k (free_mk HO.out.2) hx⟩
end Go.Proofs.YtgccjefbedpmpaaGreatDoor
namespace Go.Proofs.YtgccjefbedpmpaaGreatDoor
open Go.RowKit
theorem alloc_range (w : World) (cs : List Value) (t : TypeId) : (w.alloc (.cells cs.toArray t)).rangeAt w.heap.size 0 cs := fun j v hj => by
  rw [Nat.zero_add, cell_of_row _ _ _ _ _ _ (heap_alloc_new w _), List.getElem?_toArray]; exact hj
theorem infoOp : (Tryz.prog.info? 85).map (·.size) = some 23 := by kernel_rfl
set_option maxRecDepth 100000 in
set_option maxHeartbeats 1000000 in
theorem step_any (s : ByteArray) (hs : s.size ≤ 140737488351232) (x1 x2 x4 x5 x6 x7 x8 x9 x10 x11 x12 x13 x15 x16 x17 x19 x20 x21 x22 : Value) (a c : Int) (ha : W32 a) (hc : W32 c) (wd : Nat) (vP vH : Value) (F : Nat → Prop) (H : List Nat) (w : World) (hO : WOk w wd RV vP vH F H) (hH : (H.length + 4) * 8 ≤ 140737488355328) (hg : 11 < w.heap.size) (hK : ∀ j, j < 64 → w.cell? ⟨11, j, none⟩ = some (.int .u32 (KK j))) :
   Calls Tryz.prog 43 #[.pointer (some ⟨wd, 0, none⟩), .agg #[.int .i64 1, x1, x2, .string s, x4, x5, x6, x7, x8, x9, x10, x11, x12, x13, .int .u32 c, x15, x16, x17, .int .u32 a, x19, x20, x21, x22]] w fun e w' => e = .returned (.bool true) ∧ Left w w' wd vP vH H := by
  have hf : ∀ W, Below w.heap.size w W → Calls Tryz.prog 76 #[.pointer (some ⟨wd, 0, none⟩), .agg #[.int .i64 1, x1, x2, .string s, x4, x5, x6, x7, x8, x9, x10, x11, x12, x13, .int .u32 c, x15, x16, x17, .int .u32 a, x19, x20, x21, x22]] W fun e w' => e = .returned (.bool true) ∧ Left W w' wd vP vH H := fun W hW =>
    free_any s hs x1 x2 x4 x5 x6 x7 x8 x9 x10 x11 x12 x13 x15 x16 x17 x19 x20 x21 x22 a c ha hc wd vP vH F H W (hO.grown hW) hH (Nat.lt_of_lt_of_le hg hW.size) fun j hj => (hW.cell hg).trans (hK j hj)
  have Hf : Hid (∀ W, Below w.heap.size w W → Calls Tryz.prog 76 #[.pointer (some ⟨wd, 0, none⟩), .agg #[.int .i64 1, x1, x2, .string s, x4, x5, x6, x7, x8, x9, x10, x11, x12, x13, .int .u32 c, x15, x16, x17, .int .u32 a, x19, x20, x21, x22]] W fun e w' => e = .returned (.bool true) ∧ Left W w' wd vP vH H) := hf
  clear hf hO hH hK hs ha hc
  go_enter Tryz.func43, Tryz.ntmps43
  have hr := alloc_range w [.int .i64 1, x1, x2, .string s, x4, x5, x6, x7, x8, x9, x10, x11, x12, x13, .int .u32 c, x15, x16, x17, .int .u32 a, x19, x20, x21, x22] 85
  have Hr : Hid (World.rangeAt _ _ _ _) := hr
  clear hr
  go_wp2_with (first
    | (refine wpList_load_mid rfl 85 (.tmp 3) rfl w.heap.size 0 rfl _ _ Hr.out Tryz.underlying85 rfl infoOp ?_)
    | (go_at_call 76; refine (Hf.out _ ((Below.refl _ _).alloc (Nat.le_refl _) _)).mono ?_; rintro e w1 ⟨rfl, hl⟩))
  go_ret
  exact ⟨rfl, Left.of_below ((Below.refl _ _).alloc (Nat.le_refl _) _) hl⟩
end Go.Proofs.YtgccjefbedpmpaaGreatDoor
namespace Go.Proofs.YtgccjefbedpmpaaGreatDoor
open Go.RowKit
set_option maxRecDepth 100000 in
theorem comp_row (g : Nat → Value) : Array.foldl (fun cs (x : Value × Nat) => cs.setIfInBounds x.snd x.fst) Tryz.zeroCells90 (rowOf 72 g).zipIdx 0 72 = rowOf 74 fun j => if j < 72 then g j else .slice none 0 0 := by
  kernel_rfl
theorem range23 {w : World} {g o : Nat} {h : Nat → Value} (hc : ∀ j, j < 23 → w.cell? ⟨g, o + j, none⟩ = some (h j)) : w.rangeAt g o [h 0, h 1, h 2, h 3, h 4, h 5, h 6, h 7, h 8, h 9, h 10, h 11, h 12, h 13, h 14, h 15, h 16, h 17, h 18, h 19, h 20, h 21, h 22] := fun j v hj => by
  have hl : j < 23 := (List.getElem?_eq_some_iff.1 hj).1
  rw [hc j hl, ← hj]
  have e : [h 0, h 1, h 2, h 3, h 4, h 5, h 6, h 7, h 8, h 9, h 10, h 11, h 12, h 13, h 14, h 15, h 16, h 17, h 18, h 19, h 20, h 21, h 22] = (List.range 23).map h := rfl
  rw [e]
  simp [hl]
theorem below_but {w a b : World} {X : Nat → Prop} (h : Below w.heap.size w a) (k : But X a b) (hX : ∀ c, X c → w.heap.size ≤ c) : Below w.heap.size w b :=
  ⟨k.os.trans h.os, k.tape.trans h.tape, k.output.trans h.output, Nat.le_trans h.size k.size, fun c hc => (k.block c (Nat.lt_of_lt_of_le hc h.size) fun e => by have := hX c e; omega).trans (h.block c hc)⟩
theorem world_row (w : World) : RowIs (w.alloc (.cells (Array.foldl (fun cs (x : Value × Nat) => cs.setIfInBounds x.snd x.fst) Tryz.zeroCells90 (rowOf 72 fun j => .int .u32 (RV j)).zipIdx 0 72) 90)) w.heap.size 90 74 (wcell RV (.slice none 0 0) (.slice none 0 0)) := by
  rw [comp_row]
  refine (RowIs.new w _ 74 _).congr fun j hj => ?_
  unfold wcell
  split
  · rfl
  · split <;> rfl
set_option maxRecDepth 100000 in
set_option maxHeartbeats 1000000 in
theorem upTo_any (a : Option Addr) (n cap : Nat) (w : World) (f : Nat → Nat → Value) (hn : n * 184 ≤ 140737488351232) (hS : ∀ i, i < n → ∃ g off, a = some ⟨g, off, none⟩ ∧ (∀ j, j < 23 → w.cell? ⟨g, off + i * 23 + j, none⟩ = some (f i j)) ∧ OpIs (f i)) (hg : 11 < w.heap.size) (hK : ∀ j, j < 64 → w.cell? ⟨11, j, none⟩ = some (.int .u32 (KK j))) :
   Calls Tryz.prog 16 #[.slice a n cap, .int .i64 1, .int .i64 1] w fun e w' => e = .returned (.int .i64 (-1)) ∧ Below w.heap.size w w' := by
  have HS : Hid (∀ i, i < n → ∃ g off, a = some ⟨g, off, none⟩ ∧ (∀ j, j < 23 → w.cell? ⟨g, off + i * 23 + j, none⟩ = some (f i j)) ∧ OpIs (f i)) := hS
  have HK : Hid (∀ j, j < 64 → w.cell? ⟨11, j, none⟩ = some (.int .u32 (KK j))) := hK
  clear hS hK
  go_enter Tryz.func16, Tryz.ntmps16
  go_wp2_with (first
    | (go_at_call 41; refine (roots_any _).mono ?_; rintro e w1 ⟨rfl, hb1⟩))
  have hw1 := world_row w1
  have hB0 := hb1.alloc hb1.size (.cells (Array.foldl (fun cs (x : Value × Nat) => cs.setIfInBounds x.snd x.fst) Tryz.zeroCells90 (rowOf 72 fun j => .int .u32 (RV j)).zipIdx 0 72) 90)
  have hO0 := WOk.mk (F := fun _ => False) (hs := []) hw1 (World.ownsRow_nil _ _ _ _) (fun _ h => by cases h) ⟨id, fun _ h => by cases h⟩ (fun _ h => h.elim)
  go_loopw [8] (fun i wr => ∃ k : Nat, k ≤ n ∧ i = .int .i64 k ∧ (∃ vH F H, WOk wr w1.heap.size RV (.slice none 0 0) vH F H ∧ H.length ≤ 4 * k ∧ ∀ b, vH.ownBlock = some b → w.heap.size ≤ b) ∧ Below w.heap.size w wr) (fun i _ => n - (intOf i).toNat)
  case atStart => exact ⟨0, Nat.zero_le _, rfl, ⟨_, _, _, hO0, Nat.le_refl _, fun _ h => by cases h⟩, hB0⟩
  case round =>
    obtain ⟨k, hk, rfl, ⟨vH, F, H, hO, hHl, hvH⟩, hbl⟩ := hrel
    by_cases hlt : k < n
    · obtain ⟨g, off, rfl, hc, hop⟩ := HS.out k hlt
      have hc' : ∀ j, j < 23 → wr.cell? ⟨g, off + k * 23 + j, none⟩ = some (f k j) := fun j hj => (hbl.cell (block_lt_of_cell (hc j hj))).trans (hc j hj)
      obtain ⟨⟨kk, e0⟩, ⟨s, e3, hs⟩, ⟨c, e14, hcw⟩, ⟨d, e18, hdw⟩⟩ := hop
      have c0 := hc' 0 (by decide)
      rw [e0, Nat.add_zero] at c0
      have lk : (k : Int) < (n : Int) := by omega
      by_cases h1 : kk = 1
      · subst h1
        have hR := range23 hc'
        rw [e0, e3, e14, e18] at hR
        have HR : Hid (wr.rangeAt g (off + k * 23) [.int .i64 1, f k 1, f k 2, .string s, f k 4, f k 5, f k 6, f k 7, f k 8, f k 9, f k 10, f k 11, f k 12, f k 13, .int .u32 c, f k 15, f k 16, f k 17, .int .u32 d, f k 19, f k 20, f k 21, f k 22]) := hR
        have hH8 : (H.length + 4) * 8 ≤ 140737488355328 := by omega
        have hst := step_any s hs (f k 1) (f k 2) (f k 4) (f k 5) (f k 6) (f k 7) (f k 8) (f k 9) (f k 10) (f k 11) (f k 12) (f k 13) (f k 15) (f k 16) (f k 17) (f k 19) (f k 20) (f k 21) (f k 22) d c hdw hcw w1.heap.size (.slice none 0 0) vH F H wr hO hH8 (Nat.lt_of_lt_of_le hg hbl.size) (fun j hj => (hbl.cell hg).trans (HK.out j hj))
        have Hst : Hid (Calls _ _ _ _ _) := hst
        clear hst hR hc hc' hB0 hO0 hw1 HK
        go_wp2_with (first
          | (refine wpList_load_mid rfl 85 (.tmp 39) rfl g (off + k * 23) rfl _ _ HR.out Tryz.underlying85 rfl infoOp ?_)
          | (go_at_call 43; refine Hst.out.mono ?_; rintro e w2 ⟨rfl, hl⟩; obtain ⟨vH2, F2, H2, hO2, hl2, hv2, hb2⟩ := hl)
          | (go_at_call 44; refine (looks_any hO2).mono ?_; rintro e w3 ⟨rfl, hb3⟩))
        go_roundw
        case rel => exact ⟨k + 1, hlt, by go_num, ⟨vH2, F2, H2, hO2.grown hb3, by omega, fun b e => (hv2 b e).elim (hvH b) fun e => Nat.le_trans hbl.size e⟩, (below_but hbl hb2 fun b e => e.elim (fun e => e ▸ hb1.size) (hvH b)).trans (hb3.mono (Nat.le_trans hbl.size hb2.size))⟩
        case measure => simp [intOf]; omega
      · rcases Int.lt_or_gt_of_ne h1 with h1 | h1
        · go_wp2
          go_roundw
          case rel => exact ⟨k + 1, hlt, by go_num, ⟨vH, F, H, hO, by omega, hvH⟩, hbl⟩
          case measure => simp [intOf]; omega
        · go_wp2
          go_roundw
          case rel => exact ⟨k + 1, hlt, by go_num, ⟨vH, F, H, hO, by omega, hvH⟩, hbl⟩
          case measure => simp [intOf]; omega
    · obtain rfl : k = n := by omega
      go_wp2
      go_ret
      exact ⟨rfl, hbl⟩
end Go.Proofs.YtgccjefbedpmpaaGreatDoor
namespace Go.Proofs.YtgccjefbedpmpaaGreatDoor
open Go.RowKit
/-- What lies in memory while the document's case is made. -/
structure ES (w w' : World) (r : Nat) : Prop where
  below : Below w.heap.size w w'
  roots : RowIs w' r 80 72 fun j => .int .u32 (RV j)
  ca : w'.rangeAt (r + 1) 0 [.int .i64 1, .int .u32 1, .int .u32 1, .int .u32 1, .int .u64 0, .int .i32 97]
  cc : w'.rangeAt (r + 1 + 1 + 1) 0 [.int .i64 1, .int .u32 2, .int .u32 1, .int .u32 3, .int .u64 1048577, .int .i32 99]
  oA : w'.rangeAt (r + 1 + 1 + 1 + 1) 0 [.int .i64 1, .int .u32 1, .int .u32 1, .int .u32 1, .int .u64 0, .int .i32 97]
  oB : w'.rangeAt (r + 1 + 1 + 1 + 1) 6 [.int .i64 1, .int .u32 1, .int .u32 2, .int .u32 2, .int .u64 1048577, .int .i32 98]
  cf : w'.rangeAt (r + 1 + 1 + 1 + 1 + 1) 0 [.int .i64 5, .int .u32 1, .int .u64 0, .int .u64 0, .int .u8 0, .int .u8 0, .int .u8 0, .slice (some ⟨r + 1 + 1 + 1 + 1, 0, none⟩) 2 2]
  lt : r + 1 + 1 + 1 + 1 + 1 < w'.heap.size
theorem ES.kept {w W w2 : World} {r : Nat} (h : ES w W r) (hb : Below W.heap.size W w2) : ES w w2 r := by
  have hl := h.lt
  exact ⟨h.below.trans (hb.mono h.below.size), h.roots.below hb h.roots.lt, range_below h.ca hb (by omega), range_below h.cc hb (by omega), range_below h.oA hb (by omega), range_below h.oB hb (by omega), range_below h.cf hb (by omega), Nat.lt_of_lt_of_le hl hb.size⟩
theorem alloc_rangeAt (w : World) (cs : List Value) (t : TypeId) (g o : Nat) (hg : g = w.heap.size) (xs : List Value) (hx : ∀ j v, xs[j]? = some v → cs[o + j]? = some v) : (w.alloc (.cells cs.toArray t)).rangeAt g o xs := fun j v hj => by
  subst hg
  rw [cell_of_row _ _ _ _ _ _ (heap_alloc_new w _), List.getElem?_toArray]; exact hx j v hj
theorem drop_get (cs xs : List Value) (o : Nat) (h : (cs.drop o).take xs.length = xs) : ∀ j v, xs[j]? = some v → cs[o + j]? = some v := fun j v hj => by
  have hl := (List.getElem?_eq_some_iff.1 hj).1
  rw [← h, List.getElem?_take_of_lt hl, List.getElem?_drop] at hj
  exact hj
theorem below1 (W : World) (o : Obj) : Below W.heap.size W (W.alloc o) := (Below.refl _ _).alloc (Nat.le_refl _) o
theorem ES.start {w w1 : World} (hb : Below w.heap.size w w1) : ES w ((((((World.setRow (w1.alloc (.cells Tryz.zeroCells80 80)) w1.heap.size (rowOf 72 fun j => .int .u32 (RV j))).alloc (.cells #[.int .i64 1, .int .u32 1, .int .u32 1, .int .u32 1, .int .u64 0, .int .i32 97] 43)).alloc (.cells #[.int .i64 1, .int .u32 1, .int .u32 2, .int .u32 2, .int .u64 1048577, .int .i32 98] 43)).alloc (.cells #[.int .i64 1, .int .u32 2, .int .u32 1, .int .u32 3, .int .u64 1048577, .int .i32 99] 43)).alloc (.cells #[.int .i64 1, .int .u32 1, .int .u32 1, .int .u32 1, .int .u64 0, .int .i32 97, .int .i64 1, .int .u32 1, .int .u32 2, .int .u32 2, .int .u64 1048577, .int .i32 98] 43)).alloc (.cells #[.int .i64 5, .int .u32 1, .int .u64 0, .int .u64 0, .int .u8 0, .int .u8 0, .int .u8 0, .slice (some ⟨w1.heap.size + 1 + 1 + 1 + 1, 0, none⟩) 2 2] 58)) w1.heap.size := by
  have hr0 : RowIs (World.setRow (w1.alloc (.cells Tryz.zeroCells80 80)) w1.heap.size (rowOf 72 fun j => .int .u32 (RV j))) w1.heap.size 80 72 fun j => .int .u32 (RV j) := by
    have h : RowIs (w1.alloc (.cells Tryz.zeroCells80 80)) w1.heap.size 80 72 fun _ => .int .u32 0 := by
      rw [show Tryz.zeroCells80 = rowOf 72 fun _ => .int .u32 0 from by kernel_rfl]
      exact RowIs.new _ _ _ _
    exact h.setRow _
  have hB0 : Below w.heap.size w (World.setRow (w1.alloc (.cells Tryz.zeroCells80 80)) w1.heap.size (rowOf 72 fun j => .int .u32 (RV j))) := below_setRow' (hb.trans ((below1 _ _).mono hb.size)) hb.size _
  have hs0 : (World.setRow (w1.alloc (.cells Tryz.zeroCells80 80)) w1.heap.size (rowOf 72 fun j => .int .u32 (RV j))).heap.size = w1.heap.size + 1 := by simp
  generalize hr : w1.heap.size = r at *
  generalize World.setRow (w1.alloc (.cells Tryz.zeroCells80 80)) r (rowOf 72 fun j => .int .u32 (RV j)) = U at *
  have s1 : (U.alloc (.cells #[.int .i64 1, .int .u32 1, .int .u32 1, .int .u32 1, .int .u64 0, .int .i32 97] 43)).heap.size = r + 1 + 1 := by simp [hs0]
  have r1 := alloc_rangeAt U [.int .i64 1, .int .u32 1, .int .u32 1, .int .u32 1, .int .u64 0, .int .i32 97] 43 (r + 1) 0 hs0.symm [.int .i64 1, .int .u32 1, .int .u32 1, .int .u32 1, .int .u64 0, .int .i32 97] (drop_get _ _ 0 rfl)
  have b1 := below1 U (.cells #[.int .i64 1, .int .u32 1, .int .u32 1, .int .u32 1, .int .u64 0, .int .i32 97] 43)
  generalize U.alloc (.cells #[.int .i64 1, .int .u32 1, .int .u32 1, .int .u32 1, .int .u64 0, .int .i32 97] 43) = U1 at *
  have s2 : (U1.alloc (.cells #[.int .i64 1, .int .u32 1, .int .u32 2, .int .u32 2, .int .u64 1048577, .int .i32 98] 43)).heap.size = r + 1 + 1 + 1 := by simp [s1]
  have b2 := below1 U1 (.cells #[.int .i64 1, .int .u32 1, .int .u32 2, .int .u32 2, .int .u64 1048577, .int .i32 98] 43)
  generalize U1.alloc (.cells #[.int .i64 1, .int .u32 1, .int .u32 2, .int .u32 2, .int .u64 1048577, .int .i32 98] 43) = U2 at *
  have s3 : (U2.alloc (.cells #[.int .i64 1, .int .u32 2, .int .u32 1, .int .u32 3, .int .u64 1048577, .int .i32 99] 43)).heap.size = r + 1 + 1 + 1 + 1 := by simp [s2]
  have r3 := alloc_rangeAt U2 [.int .i64 1, .int .u32 2, .int .u32 1, .int .u32 3, .int .u64 1048577, .int .i32 99] 43 (r + 1 + 1 + 1) 0 s2.symm [.int .i64 1, .int .u32 2, .int .u32 1, .int .u32 3, .int .u64 1048577, .int .i32 99] (drop_get _ _ 0 rfl)
  have b3 := below1 U2 (.cells #[.int .i64 1, .int .u32 2, .int .u32 1, .int .u32 3, .int .u64 1048577, .int .i32 99] 43)
  generalize U2.alloc (.cells #[.int .i64 1, .int .u32 2, .int .u32 1, .int .u32 3, .int .u64 1048577, .int .i32 99] 43) = U3 at *
  have s4 : (U3.alloc (.cells #[.int .i64 1, .int .u32 1, .int .u32 1, .int .u32 1, .int .u64 0, .int .i32 97, .int .i64 1, .int .u32 1, .int .u32 2, .int .u32 2, .int .u64 1048577, .int .i32 98] 43)).heap.size = r + 1 + 1 + 1 + 1 + 1 := by simp [s3]
  have r4 := alloc_rangeAt U3 [.int .i64 1, .int .u32 1, .int .u32 1, .int .u32 1, .int .u64 0, .int .i32 97, .int .i64 1, .int .u32 1, .int .u32 2, .int .u32 2, .int .u64 1048577, .int .i32 98] 43 (r + 1 + 1 + 1 + 1) 0 s3.symm [.int .i64 1, .int .u32 1, .int .u32 1, .int .u32 1, .int .u64 0, .int .i32 97] (drop_get _ _ 0 rfl)
  have r5 := alloc_rangeAt U3 [.int .i64 1, .int .u32 1, .int .u32 1, .int .u32 1, .int .u64 0, .int .i32 97, .int .i64 1, .int .u32 1, .int .u32 2, .int .u32 2, .int .u64 1048577, .int .i32 98] 43 (r + 1 + 1 + 1 + 1) 6 s3.symm [.int .i64 1, .int .u32 1, .int .u32 2, .int .u32 2, .int .u64 1048577, .int .i32 98] (drop_get _ _ 6 rfl)
  have b4 := below1 U3 (.cells #[.int .i64 1, .int .u32 1, .int .u32 1, .int .u32 1, .int .u64 0, .int .i32 97, .int .i64 1, .int .u32 1, .int .u32 2, .int .u32 2, .int .u64 1048577, .int .i32 98] 43)
  generalize U3.alloc (.cells #[.int .i64 1, .int .u32 1, .int .u32 1, .int .u32 1, .int .u64 0, .int .i32 97, .int .i64 1, .int .u32 1, .int .u32 2, .int .u32 2, .int .u64 1048577, .int .i32 98] 43) = U4 at *
  have r6 := alloc_rangeAt U4 [.int .i64 5, .int .u32 1, .int .u64 0, .int .u64 0, .int .u8 0, .int .u8 0, .int .u8 0, .slice (some ⟨r + 1 + 1 + 1 + 1, 0, none⟩) 2 2] 58 (r + 1 + 1 + 1 + 1 + 1) 0 s4.symm [.int .i64 5, .int .u32 1, .int .u64 0, .int .u64 0, .int .u8 0, .int .u8 0, .int .u8 0, .slice (some ⟨r + 1 + 1 + 1 + 1, 0, none⟩) 2 2] (drop_get _ _ 0 rfl)
  have b5 := below1 U4 (.cells #[.int .i64 5, .int .u32 1, .int .u64 0, .int .u64 0, .int .u8 0, .int .u8 0, .int .u8 0, .slice (some ⟨r + 1 + 1 + 1 + 1, 0, none⟩) 2 2] 58)
  have s5 : (U4.alloc (.cells #[.int .i64 5, .int .u32 1, .int .u64 0, .int .u64 0, .int .u8 0, .int .u8 0, .int .u8 0, .slice (some ⟨r + 1 + 1 + 1 + 1, 0, none⟩) 2 2] 58)).heap.size = r + 1 + 1 + 1 + 1 + 1 + 1 := by simp [s4]
  generalize U4.alloc (.cells #[.int .i64 5, .int .u32 1, .int .u64 0, .int .u64 0, .int .u8 0, .int .u8 0, .int .u8 0, .slice (some ⟨r + 1 + 1 + 1 + 1, 0, none⟩) 2 2] 58) = U5 at *
  have k4 : Below U4.heap.size U4 U5 := b5
  have k3 : Below U3.heap.size U3 U5 := b4.trans (k4.mono b4.size)
  have k2 : Below U2.heap.size U2 U5 := b3.trans (k3.mono b3.size)
  have k1 : Below U1.heap.size U1 U5 := b2.trans (k2.mono b2.size)
  have k0 : Below U.heap.size U U5 := b1.trans (k1.mono b1.size)
  exact ⟨hB0.trans (k0.mono hB0.size), hr0.below k0 (by omega), range_below r1 k1 (by omega), range_below r3 k3 (by omega), range_below r4 k4 (by omega), range_below r5 k4 (by omega), r6, by omega⟩
theorem cells8 {w : World} {g : Nat} {v0 v1 v2 v3 v4 v5 v6 v7 : Value} (h : w.rangeAt g 0 [v0, v1, v2, v3, v4, v5, v6, v7]) : w.cell? ⟨g, 0, none⟩ = some v0 ∧ w.cell? ⟨g, 1, none⟩ = some v1 ∧ w.cell? ⟨g, 2, none⟩ = some v2 ∧ w.cell? ⟨g, 3, none⟩ = some v3 ∧ w.cell? ⟨g, 4, none⟩ = some v4 ∧ w.cell? ⟨g, 5, none⟩ = some v5 ∧ w.cell? ⟨g, 6, none⟩ = some v6 ∧ w.cell? ⟨g, 7, none⟩ = some v7 :=
  ⟨h 0 v0 rfl, h 1 v1 rfl, h 2 v2 rfl, h 3 v3 rfl, h 4 v4 rfl, h 5 v5 rfl, h 6 v6 rfl, h 7 v7 rfl⟩
theorem ES.drew {w W : World} {r : Nat} (h : ES w W r) : ES w W.drew r := ⟨h.below.drew, h.roots, h.ca, h.cc, h.oA, h.oB, h.cf, h.lt⟩
/-- The steps of it, as they lie in memory. -/
def exC (sA sX sB sC : ByteArray) (r : Nat) : Array Value := #[.int .i64 1, .int .i64 0, .int .i64 0, .string ⟨#[97, 98, 99]⟩, .int .i64 0, .int .u32 0, .int .u64 0, .int .u64 0, .int .u8 0, .int .u8 0, .int .u8 0, .slice none 0 0, .int .i64 1, .int .u32 1, .int .u32 1, .int .u32 1, .int .u64 0, .int .i32 97, .int .u32 1, .int .i64 0, .int .i32 0, .int .u64 0, .int .u64 0,
  .int .i64 2, .int .i64 0, .int .i64 0, .string ⟨#[]⟩, .int .i64 5, .int .u32 1, .int .u64 0, .int .u64 0, .int .u8 0, .int .u8 0, .int .u8 0, .slice (some ⟨r, 0, none⟩) 2 2, .int .i64 0, .int .u32 0, .int .u32 0, .int .u32 0, .int .u64 0, .int .i32 0, .int .u32 0, .int .i64 0, .int .i32 0, .int .u64 0, .int .u64 0,
  .int .i64 2, .int .i64 0, .int .i64 0, .string ⟨#[]⟩, .int .i64 0, .int .u32 0, .int .u64 0, .int .u64 0, .int .u8 0, .int .u8 0, .int .u8 0, .slice none 0 0, .int .i64 0, .int .u32 0, .int .u32 0, .int .u32 0, .int .u64 0, .int .i32 0, .int .u32 0, .int .i64 0, .int .i32 0, .int .u64 0, .int .u64 0,
  .int .i64 3, .int .i64 0, .int .i64 0, .string sA, .int .i64 0, .int .u32 0, .int .u64 0, .int .u64 0, .int .u8 0, .int .u8 0, .int .u8 0, .slice none 0 0, .int .i64 0, .int .u32 0, .int .u32 0, .int .u32 0, .int .u64 0, .int .i32 0, .int .u32 0, .int .i64 0, .int .i32 0, .int .u64 0, .int .u64 0,
  .int .i64 3, .int .i64 0, .int .i64 0, .string sX, .int .i64 0, .int .u32 0, .int .u64 0, .int .u64 0, .int .u8 0, .int .u8 0, .int .u8 0, .slice none 0 0, .int .i64 0, .int .u32 0, .int .u32 0, .int .u32 0, .int .u64 0, .int .i32 0, .int .u32 0, .int .i64 0, .int .i32 0, .int .u64 0, .int .u64 0,
  .int .i64 4, .int .i64 0, .int .i64 0, .string ⟨#[]⟩, .int .i64 0, .int .u32 0, .int .u64 0, .int .u64 0, .int .u8 0, .int .u8 0, .int .u8 0, .slice none 0 0, .int .i64 0, .int .u32 0, .int .u32 0, .int .u32 0, .int .u64 0, .int .i32 0, .int .u32 1, .int .i64 0, .int .i32 0, .int .u64 0, .int .u64 0,
  .int .i64 4, .int .i64 0, .int .i64 0, .string ⟨#[]⟩, .int .i64 0, .int .u32 0, .int .u64 0, .int .u64 0, .int .u8 0, .int .u8 0, .int .u8 0, .slice none 0 0, .int .i64 0, .int .u32 0, .int .u32 0, .int .u32 0, .int .u64 0, .int .i32 0, .int .u32 2, .int .i64 0, .int .i32 0, .int .u64 0, .int .u64 0,
  .int .i64 5, .int .i64 0, .int .i64 0, .string ⟨#[]⟩, .int .i64 0, .int .u32 0, .int .u64 0, .int .u64 0, .int .u8 0, .int .u8 0, .int .u8 0, .slice none 0 0, .int .i64 0, .int .u32 0, .int .u32 0, .int .u32 0, .int .u64 0, .int .i32 0, .int .u32 0, .int .i64 0, .int .i32 97, .int .u64 0, .int .u64 0,
  .int .i64 5, .int .i64 0, .int .i64 0, .string ⟨#[]⟩, .int .i64 0, .int .u32 0, .int .u64 0, .int .u64 0, .int .u8 0, .int .u8 0, .int .u8 0, .slice none 0 0, .int .i64 0, .int .u32 0, .int .u32 0, .int .u32 0, .int .u64 0, .int .i32 0, .int .u32 0, .int .i64 1, .int .i32 98, .int .u64 0, .int .u64 0,
  .int .i64 5, .int .i64 0, .int .i64 0, .string ⟨#[]⟩, .int .i64 0, .int .u32 0, .int .u64 0, .int .u64 0, .int .u8 0, .int .u8 0, .int .u8 0, .slice none 0 0, .int .i64 0, .int .u32 0, .int .u32 0, .int .u32 0, .int .u64 0, .int .i32 0, .int .u32 0, .int .i64 1, .int .i32 100, .int .u64 0, .int .u64 0,
  .int .i64 7, .int .i64 0, .int .i64 0, .string ⟨#[]⟩, .int .i64 0, .int .u32 0, .int .u64 0, .int .u64 0, .int .u8 0, .int .u8 0, .int .u8 0, .slice none 0 0, .int .i64 1, .int .u32 2, .int .u32 1, .int .u32 3, .int .u64 1048577, .int .i32 99, .int .u32 0, .int .i64 0, .int .i32 0, .int .u64 0, .int .u64 0,
  .int .i64 8, .int .i64 0, .int .i64 0, .string ⟨#[]⟩, .int .i64 0, .int .u32 0, .int .u64 0, .int .u64 0, .int .u8 0, .int .u8 0, .int .u8 0, .slice none 0 0, .int .i64 0, .int .u32 0, .int .u32 0, .int .u32 0, .int .u64 0, .int .i32 0, .int .u32 0, .int .i64 0, .int .i32 0, .int .u64 0, .int .u64 0,
  .int .i64 6, .int .i64 0, .int .i64 0, .string ⟨#[]⟩, .int .i64 0, .int .u32 0, .int .u64 0, .int .u64 0, .int .u8 0, .int .u8 0, .int .u8 0, .slice none 0 0, .int .i64 0, .int .u32 0, .int .u32 0, .int .u32 0, .int .u64 0, .int .i32 0, .int .u32 0, .int .i64 1, .int .i32 0, .int .u64 0, .int .u64 0,
  .int .i64 8, .int .i64 0, .int .i64 0, .string ⟨#[]⟩, .int .i64 0, .int .u32 0, .int .u64 0, .int .u64 0, .int .u8 0, .int .u8 0, .int .u8 0, .slice none 0 0, .int .i64 0, .int .u32 0, .int .u32 0, .int .u32 0, .int .u64 0, .int .i32 0, .int .u32 0, .int .i64 0, .int .i32 0, .int .u64 0, .int .u64 0,
  .int .i64 9, .int .i64 0, .int .i64 0, .string ⟨#[]⟩, .int .i64 0, .int .u32 0, .int .u64 0, .int .u64 0, .int .u8 0, .int .u8 0, .int .u8 0, .slice none 0 0, .int .i64 0, .int .u32 0, .int .u32 0, .int .u32 0, .int .u64 0, .int .i32 0, .int .u32 0, .int .i64 0, .int .i32 0, .int .u64 0, .int .u64 0,
  .int .i64 10, .int .i64 0, .int .i64 0, .string ⟨#[]⟩, .int .i64 0, .int .u32 0, .int .u64 0, .int .u64 0, .int .u8 0, .int .u8 0, .int .u8 0, .slice none 0 0, .int .i64 0, .int .u32 0, .int .u32 0, .int .u32 0, .int .u64 0, .int .i32 0, .int .u32 0, .int .i64 0, .int .i32 0, .int .u64 0, .int .u64 1099511627776,
  .int .i64 13, .int .i64 0, .int .i64 0, .string sB, .int .i64 0, .int .u32 0, .int .u64 0, .int .u64 0, .int .u8 0, .int .u8 0, .int .u8 0, .slice none 0 0, .int .i64 0, .int .u32 0, .int .u32 0, .int .u32 0, .int .u64 0, .int .i32 0, .int .u32 0, .int .i64 0, .int .i32 0, .int .u64 0, .int .u64 0,
  .int .i64 13, .int .i64 1, .int .i64 0, .string sA, .int .i64 0, .int .u32 0, .int .u64 0, .int .u64 0, .int .u8 0, .int .u8 0, .int .u8 0, .slice none 0 0, .int .i64 0, .int .u32 0, .int .u32 0, .int .u32 0, .int .u64 0, .int .i32 0, .int .u32 0, .int .i64 0, .int .i32 0, .int .u64 0, .int .u64 0,
  .int .i64 8, .int .i64 1, .int .i64 0, .string ⟨#[]⟩, .int .i64 0, .int .u32 0, .int .u64 0, .int .u64 0, .int .u8 0, .int .u8 0, .int .u8 0, .slice none 0 0, .int .i64 0, .int .u32 0, .int .u32 0, .int .u32 0, .int .u64 0, .int .i32 0, .int .u32 0, .int .i64 0, .int .i32 0, .int .u64 0, .int .u64 0,
  .int .i64 11, .int .i64 0, .int .i64 0, .string ⟨#[]⟩, .int .i64 0, .int .u32 0, .int .u64 0, .int .u64 0, .int .u8 0, .int .u8 0, .int .u8 0, .slice none 0 0, .int .i64 0, .int .u32 0, .int .u32 0, .int .u32 0, .int .u64 0, .int .i32 0, .int .u32 4, .int .i64 0, .int .i32 0, .int .u64 0, .int .u64 0,
  .int .i64 12, .int .i64 0, .int .i64 0, .string ⟨#[]⟩, .int .i64 0, .int .u32 0, .int .u64 0, .int .u64 0, .int .u8 0, .int .u8 0, .int .u8 0, .slice none 0 0, .int .i64 0, .int .u32 0, .int .u32 0, .int .u32 0, .int .u64 0, .int .i32 0, .int .u32 0, .int .i64 0, .int .i32 0, .int .u64 0, .int .u64 0,
  .int .i64 13, .int .i64 0, .int .i64 0, .string sC, .int .i64 0, .int .u32 0, .int .u64 0, .int .u64 0, .int .u8 0, .int .u8 0, .int .u8 0, .slice none 0 0, .int .i64 0, .int .u32 0, .int .u32 0, .int .u32 0, .int .u64 0, .int .i32 0, .int .u32 0, .int .i64 0, .int .i32 0, .int .u64 0, .int .u64 0,
  .int .i64 14, .int .i64 0, .int .i64 0, .string ⟨#[]⟩, .int .i64 0, .int .u32 0, .int .u64 0, .int .u64 0, .int .u8 0, .int .u8 0, .int .u8 0, .slice none 0 0, .int .i64 0, .int .u32 0, .int .u32 0, .int .u32 0, .int .u64 0, .int .i32 0, .int .u32 0, .int .i64 0, .int .i32 0, .int .u64 0, .int .u64 0,
  .int .i64 15, .int .i64 0, .int .i64 1, .string ⟨#[]⟩, .int .i64 0, .int .u32 0, .int .u64 0, .int .u64 0, .int .u8 0, .int .u8 0, .int .u8 0, .slice none 0 0, .int .i64 0, .int .u32 0, .int .u32 0, .int .u32 0, .int .u64 0, .int .i32 0, .int .u32 0, .int .i64 0, .int .i32 0, .int .u64 0, .int .u64 1099511627776]
theorem infoOpZ : (Tryz.prog.info? 85).map (fun i => (i.zero, i.size, i.bytes)) = some (some (.agg #[.int .i64 0, .int .i64 0, .int .i64 0, .string ⟨#[]⟩, .int .i64 0, .int .u32 0, .int .u64 0, .int .u64 0, .int .u8 0, .int .u8 0, .int .u8 0, .slice none 0 0, .int .i64 0, .int .u32 0, .int .u32 0, .int .u32 0, .int .u64 0, .int .i32 0, .int .u32 0, .int .i64 0, .int .i32 0, .int .u64 0, .int .u64 0]), 23, 184) := by kernel_rfl
set_option maxRecDepth 100000 in
theorem exC_ok (sA sX sB sC : ByteArray) (r : Nat) (hA : sA.size ≤ 1000) (hX : sX.size ≤ 1000) (hB : sB.size ≤ 1000) (hC : sC.size ≤ 1000) : ∀ i, i < 24 → OpIs fun j => ((exC sA sX sB sC r)[i * 23 + j]?).getD .nilFunc := fun i hi => by
  have w32 : ∀ x : Int, 0 ≤ x ∧ x < 5 → W32 x := fun x hx => ⟨hx.1, by omega⟩
  match i, hi with
  | 0, _ => exact ⟨⟨_, rfl⟩, ⟨_, rfl, by decide⟩, ⟨_, rfl, w32 _ (by decide)⟩, ⟨_, rfl, w32 _ (by decide)⟩⟩
  | 1, _ => exact ⟨⟨_, rfl⟩, ⟨_, rfl, by decide⟩, ⟨_, rfl, w32 _ (by decide)⟩, ⟨_, rfl, w32 _ (by decide)⟩⟩
  | 2, _ => exact ⟨⟨_, rfl⟩, ⟨_, rfl, by decide⟩, ⟨_, rfl, w32 _ (by decide)⟩, ⟨_, rfl, w32 _ (by decide)⟩⟩
  | 3, _ => exact ⟨⟨_, rfl⟩, ⟨_, rfl, by omega⟩, ⟨_, rfl, w32 _ (by decide)⟩, ⟨_, rfl, w32 _ (by decide)⟩⟩
  | 4, _ => exact ⟨⟨_, rfl⟩, ⟨_, rfl, by omega⟩, ⟨_, rfl, w32 _ (by decide)⟩, ⟨_, rfl, w32 _ (by decide)⟩⟩
  | 5, _ => exact ⟨⟨_, rfl⟩, ⟨_, rfl, by decide⟩, ⟨_, rfl, w32 _ (by decide)⟩, ⟨_, rfl, w32 _ (by decide)⟩⟩
  | 6, _ => exact ⟨⟨_, rfl⟩, ⟨_, rfl, by decide⟩, ⟨_, rfl, w32 _ (by decide)⟩, ⟨_, rfl, w32 _ (by decide)⟩⟩
  | 7, _ => exact ⟨⟨_, rfl⟩, ⟨_, rfl, by decide⟩, ⟨_, rfl, w32 _ (by decide)⟩, ⟨_, rfl, w32 _ (by decide)⟩⟩
  | 8, _ => exact ⟨⟨_, rfl⟩, ⟨_, rfl, by decide⟩, ⟨_, rfl, w32 _ (by decide)⟩, ⟨_, rfl, w32 _ (by decide)⟩⟩
  | 9, _ => exact ⟨⟨_, rfl⟩, ⟨_, rfl, by decide⟩, ⟨_, rfl, w32 _ (by decide)⟩, ⟨_, rfl, w32 _ (by decide)⟩⟩
  | 10, _ => exact ⟨⟨_, rfl⟩, ⟨_, rfl, by decide⟩, ⟨_, rfl, w32 _ (by decide)⟩, ⟨_, rfl, w32 _ (by decide)⟩⟩
  | 11, _ => exact ⟨⟨_, rfl⟩, ⟨_, rfl, by decide⟩, ⟨_, rfl, w32 _ (by decide)⟩, ⟨_, rfl, w32 _ (by decide)⟩⟩
  | 12, _ => exact ⟨⟨_, rfl⟩, ⟨_, rfl, by decide⟩, ⟨_, rfl, w32 _ (by decide)⟩, ⟨_, rfl, w32 _ (by decide)⟩⟩
  | 13, _ => exact ⟨⟨_, rfl⟩, ⟨_, rfl, by decide⟩, ⟨_, rfl, w32 _ (by decide)⟩, ⟨_, rfl, w32 _ (by decide)⟩⟩
  | 14, _ => exact ⟨⟨_, rfl⟩, ⟨_, rfl, by decide⟩, ⟨_, rfl, w32 _ (by decide)⟩, ⟨_, rfl, w32 _ (by decide)⟩⟩
  | 15, _ => exact ⟨⟨_, rfl⟩, ⟨_, rfl, by decide⟩, ⟨_, rfl, w32 _ (by decide)⟩, ⟨_, rfl, w32 _ (by decide)⟩⟩
  | 16, _ => exact ⟨⟨_, rfl⟩, ⟨_, rfl, by omega⟩, ⟨_, rfl, w32 _ (by decide)⟩, ⟨_, rfl, w32 _ (by decide)⟩⟩
  | 17, _ => exact ⟨⟨_, rfl⟩, ⟨_, rfl, by omega⟩, ⟨_, rfl, w32 _ (by decide)⟩, ⟨_, rfl, w32 _ (by decide)⟩⟩
  | 18, _ => exact ⟨⟨_, rfl⟩, ⟨_, rfl, by decide⟩, ⟨_, rfl, w32 _ (by decide)⟩, ⟨_, rfl, w32 _ (by decide)⟩⟩
  | 19, _ => exact ⟨⟨_, rfl⟩, ⟨_, rfl, by decide⟩, ⟨_, rfl, w32 _ (by decide)⟩, ⟨_, rfl, w32 _ (by decide)⟩⟩
  | 20, _ => exact ⟨⟨_, rfl⟩, ⟨_, rfl, by decide⟩, ⟨_, rfl, w32 _ (by decide)⟩, ⟨_, rfl, w32 _ (by decide)⟩⟩
  | 21, _ => exact ⟨⟨_, rfl⟩, ⟨_, rfl, by omega⟩, ⟨_, rfl, w32 _ (by decide)⟩, ⟨_, rfl, w32 _ (by decide)⟩⟩
  | 22, _ => exact ⟨⟨_, rfl⟩, ⟨_, rfl, by decide⟩, ⟨_, rfl, w32 _ (by decide)⟩, ⟨_, rfl, w32 _ (by decide)⟩⟩
  | 23, _ => exact ⟨⟨_, rfl⟩, ⟨_, rfl, by decide⟩, ⟨_, rfl, w32 _ (by decide)⟩, ⟨_, rfl, w32 _ (by decide)⟩⟩
  | n + 24, h => exact absurd h (by omega)
set_option maxRecDepth 100000 in
theorem ex_up (W : World) (sA sX sB sC : ByteArray) (r : Nat) (hA : sA.size ≤ 1000) (hX : sX.size ≤ 1000) (hB : sB.size ≤ 1000) (hC : sC.size ≤ 1000) (hg : 11 < W.heap.size) (hK : ∀ j, j < 64 → W.cell? ⟨11, j, none⟩ = some (.int .u32 (KK j))) :
    Calls Tryz.prog 16 #[.slice (some ⟨W.heap.size, 0, none⟩) 24 24, .int .i64 1, .int .i64 1] (W.alloc (.cells (exC sA sX sB sC r) 85)) fun e w' => e = .returned (.int .i64 (-1)) ∧ Below (W.alloc (.cells (exC sA sX sB sC r) 85)).heap.size (W.alloc (.cells (exC sA sX sB sC r) 85)) w' := by
  have hb := below1 W (.cells (exC sA sX sB sC r) 85)
  refine upTo_any _ 24 24 _ (fun i j => ((exC sA sX sB sC r)[i * 23 + j]?).getD .nilFunc) (by decide) (fun i hi => ⟨W.heap.size, 0, rfl, fun j hj => ?_, exC_ok sA sX sB sC r hA hX hB hC i hi⟩) (Nat.lt_of_lt_of_le hg hb.size) (fun j hj => (hb.cell hg).trans (hK j hj))
  have hsz : (exC sA sX sB sC r).size = 552 := rfl
  rw [Nat.zero_add, cell_of_row _ _ _ _ _ _ (heap_alloc_new W _), Array.getElem?_eq_getElem (by omega)]
  rfl
end Go.Proofs.YtgccjefbedpmpaaGreatDoor

import Derived.Test.YtgccjefbedpmpaaGreatDoorGRUnp
import Derived.Test.YtgccjefbedpmpaaGreatDoorGLeft
import Derived.Test.YtgccjefbedpmpaaGreatDoorGFree
import Derived.Deep.CutBlock
namespace Go.Proofs.YtgccjefbedpmpaaGreatDoor
open Go.RowKit
/-- What both Unpacks answer of the same bytes is one frame. -/
theorem KU.one (l : List Int) : ∃ (F : Frm) (er : Int), F.ops.length ≤ 255 ∧ ∀ B e w', KU l B e w' → ∃ a c, e = .returned (.tuple #[F.val (.slice a F.ops.length c), .int .i64 er]) ∧ OwnO w' B (.slice a F.ops.length c) F.ops := by
  by_cases h : ∃ f, Good f l
  · obtain ⟨f, hf⟩ := h
    refine ⟨f, 0, by have := hf.w.n.1; omega, fun B e w' hk => ?_⟩
    rcases hk with ⟨f2, s, h2, rfl, ho⟩ | ⟨hno, _⟩
    · obtain rfl := h2.one hf
      obtain ⟨a, c, rfl⟩ := ho.form
      exact ⟨a, c, rfl, ho⟩
    · exact absurd hf (hno f)
  · refine ⟨⟨0, 0, 0, 0, 0, 0, 0, []⟩, 8, Nat.zero_le _, fun B e w' hk => ?_⟩
    rcases hk with ⟨f2, s, h2, rfl, ho⟩ | ⟨hno, rfl⟩
    · exact absurd ⟨f2, h2⟩ h
    · exact ⟨none, 0, rfl, World.ownsRow_nil _ _ _ _⟩
theorem lent_in {w : World} {g : Nat} {s : ByteArray} (hs : s.size ≤ 140737488351232) (h : RowIs w g 5 (s.size + 8) (lentC s (s.size + 8))) : In w g (s.size + 8) (dl s) := by
  refine ⟨fun i hi => ?_, dl_byt s, h.lt, by rw [dl_len]; omega, by omega⟩
  have hi' : i < s.size := by rw [dl_len] at hi; exact hi
  rw [h.cell (by omega)]
  unfold lentC
  rw [if_pos hi', ← byAt_dl s hi, byAt, if_pos hi']
/-- What lies in memory while the reference's answer is taken. -/
structure QS (w W : World) (wd : Nat) (vP vH : Value) (s : ByteArray) (b8 : Nat) (f8 : Nat → Value) (v : Value) (os : List Opn) : Prop where
  below : Below w.heap.size w W
  row : RowIs W wd 90 74 (wcell RV vP vH)
  str : W.cell? ⟨w.heap.size, 3, none⟩ = some (.string s)
  lent : RowIs W (w.heap.size + 1) 5 (s.size + 8) (lentC s (s.size + 8))
  fr : RowIs W b8 58 8 f8
  own : OwnO W w.heap.size v os
section
variable {w W w2 : World} {wd : Nat} {vP vH : Value} {s : ByteArray} {b8 : Nat} {f8 : Nat → Value} {v : Value} {os : List Opn}
theorem QS.kept (h : QS w W wd vP vH s b8 f8 v os) (hb : Below W.heap.size W w2) : QS w w2 wd vP vH s b8 f8 v os :=
  ⟨h.below.trans (hb.mono h.below.size), h.row.below hb h.row.lt, (hb.cell (block_lt_of_cell h.str)).trans h.str, h.lent.below hb h.lent.lt, h.fr.below hb h.fr.lt, OwnO.keep h.own hb⟩
theorem QS.alloc (h : QS w W wd vP vH s b8 f8 v os) (o : Obj) : QS w (W.alloc o) wd vP vH s b8 f8 v os := h.kept (below1' _ _)
theorem QS.drew (h : QS w W wd vP vH s b8 f8 v os) : QS w W.drew wd vP vH s b8 f8 v os := ⟨h.below.drew, h.row.drew, h.str, h.lent.drew, h.fr.drew, own_frame h.own fun _ _ => rfl⟩
theorem QS.put (h : QS w W wd vP vH s b8 f8 v os) {g : Nat} (hg : w.heap.size + 1 < g) (hw : wd < w.heap.size) (h8 : g ≠ b8) (ho : v.ownBlock ≠ some g) (cs : Array Value) : QS w (W.setRow g cs) wd vP vH s b8 f8 v os :=
  ⟨below_setRow' h.below (by omega) _, h.row.setRowOther (by omega) _, (World.cell?_of_block (a := ⟨w.heap.size, 3, none⟩) (setRow_other _ _ _ _ (by show w.heap.size ≠ g; omega))).trans h.str, h.lent.setRowOther (by omega) _, h.fr.setRowOther (fun e => h8 e) _, own_frame h.own fun y hy => setRow_other _ _ _ _ fun e => ho (by rw [← e]; exact hy)⟩
end
theorem ops_raw {wa wk : World} {B : Nat} {v : Value} {os : List Opn} (ho : OwnO wa B v os) (hk : wk = wa.alloc (.cells #[.slice none 0 0, v, .slice none 0 0, .int .i64 0] 161)) :
    HoldRaw wk wa.heap.size 0 (.slice none 0 0) v (.slice none 0 0) 0 os.length 0 [] (opCs os) [] := by
  subst hk
  exact ⟨RowIs.new wa 161 4 (hold4 (.slice none 0 0) v (.slice none 0 0) 0), World.ownsRow_nil _ _ _ _, World.ownsRow.alloc (ho.base (Nat.zero_le _)) _, World.ownsRow_nil _ _ _ _⟩
theorem ownX_ops {v : Value} {b : Nat} (h : ownX (.slice none 0 0) v (.slice none 0 0) b) : v.ownBlock = some b := by
  rcases h with e | e | e
  · cases e
  · exact e
  · cases e
theorem ownX_bytes {g n c b : Nat} (h : ownX (.slice (some ⟨g, 0, none⟩) n c) (.slice none 0 0) (.slice none 0 0) b) : b = g := by
  rcases h with e | e | e
  · cases e; rfl
  · cases e
  · cases e
/-- The lent bytes and the script's step still lie there, when what Unpack gave has been kept. -/
theorem QS.after {w W wh w7 : World} {wd : Nat} {vP vH : Value} {s : ByteArray} {b8 : Nat} {f8 : Nat → Value} {v : Value} {os : List Opn} {F : Nat → Prop} {hs : List Nat} {mk : Int} {n1 n2 n3 : Nat} {vH' : Value} {hs' : List Nat} {g : Nat} {V1 V2 V3 : Value} {ls : List Value} {o : Obj}
    (h : QS w W wd vP vH s b8 f8 v os) (hO : WOk w wd RV vP vH F hs) (hv : ∀ b, v.ownBlock = some b → w.heap.size + 1 < b) (hw : wh = W.alloc o)
    (k : Kst wh w7 wd RV vP vH F hs W.heap.size (.slice none 0 0) v (.slice none 0 0) mk 4 n1 n2 n3 vH' hs' g V1 V2 V3 ls) : w7.cell? ⟨w.heap.size, 3, none⟩ = some (.string s) ∧ RowIs w7 (w.heap.size + 1) 5 (s.size + 8) (lentC s (s.size + 8)) := by
  subst hw
  have hz : (W.alloc o).heap.size = W.heap.size + 1 := by simp
  have h1 := h.lent.lt
  have a := h.alloc o
  have e0 := Kst.block hO k (b := w.heap.size) (Nat.le_refl _) (by omega) (by omega) fun e => by have := hv _ (ownX_ops e); omega
  have e1 := Kst.block hO k (b := w.heap.size + 1) (Nat.le_succ _) (by omega) (by omega) fun e => by have := hv _ (ownX_ops e); omega
  exact ⟨(World.cell?_of_block (a := ⟨w.heap.size, 3, none⟩) e0).trans a.str, e1.trans a.lent⟩
end Go.Proofs.YtgccjefbedpmpaaGreatDoor
namespace Go.Proofs.YtgccjefbedpmpaaGreatDoor
open Go.RowKit
/-- What Unpack gave has been kept; the lent bytes and the step still lie there. -/
def MidU (w : World) (wd : Nat) (vP vH : Value) (F : Nat → Prop) (H : List Nat) (s : ByteArray) (wx : World) : Prop :=
  Mid1 w wd vP vH F H (fun b => b = w.heap.size ∨ b = w.heap.size + 1) wx ∧ wx.cell? ⟨w.heap.size, 3, none⟩ = some (.string s) ∧ RowIs wx (w.heap.size + 1) 5 (s.size + 8) (lentC s (s.size + 8))
set_option maxRecDepth 100000 in
set_option maxHeartbeats 1000000 in
theorem freeU_any (s : ByteArray) (hs : s.size ≤ 140737488351232) (x1 x2 x4 x5 x6 x7 x8 x9 x10 x11 x12 x13 x14 x15 x16 x17 x18 x19 x20 x21 x22 : Value) (wd : Nat) (vP vH : Value) (F : Nat → Prop) (H : List Nat) (w : World) (hO : WOk w wd RV vP vH F H) (hH : (H.length + 8) * 8 ≤ 140737488355328) (hE : Env w) (hg9 : 15 ≤ w.heap.size) :
   Calls Tryz.prog 76 #[.pointer (some ⟨wd, 0, none⟩), .agg #[.int .i64 3, x1, x2, .string s, x4, x5, x6, x7, x8, x9, x10, x11, x12, x13, x14, x15, x16, x17, x18, x19, x20, x21, x22]] w fun e w' => e = .returned (.bool true) ∧ LeftN w w' wd vP vH H := by
  have e1 : ((s.size : Int) + 8).toNat = s.size + 8 := by omega
  have e2 : (s.size : Int) ≤ (s.size : Int) + 8 := by omega
  have e3 : (s.size : Int).toNat = s.size := by omega
  obtain ⟨⟨gk, gs, gl, gh, g0, g1, g2, os⟩, er, hG, hone⟩ := KU.one (dl s)
  unfold Frm.val at hone
  dsimp only at hone hG
  have hG3 : (os.length + 3) * 40 ≤ 140737488355328 := by omega
  have HONE : Hid (∀ B e w', KU (dl s) B e w' → _) := hone
  have HE : Hid (Env w ∧ 15 ≤ w.heap.size) := ⟨hE, hg9⟩
  have hW := hO.row
  have HO : Hid (WOk w wd RV vP vH F H ∧ (H.length + 8) * 8 ≤ 140737488355328) := ⟨hO, hH⟩
  clear hO hH hone hE hg9
  go_enter Tryz.func76, Tryz.ntmps76
  go_upto_block 0 with (go_at_call 126; refine (lent_any s hs _).mono ?_; rintro e w1 ⟨rfl, hL, hb1⟩; have k0 : w1.cell? ⟨w.heap.size, 0, none⟩ = some (.int .i64 3) := (hb1.cell (p := ⟨w.heap.size, 0, none⟩) (by simp)).trans ((cell_of_row _ _ _ _ _ _ (heap_alloc_new w _)).trans rfl); have k3 : w1.cell? ⟨w.heap.size, 3, none⟩ = some (.string s) := (hb1.cell (p := ⟨w.heap.size, 3, none⟩) (by simp)).trans ((cell_of_row _ _ _ _ _ _ (heap_alloc_new w _)).trans rfl); have hB1 : Below w.heap.size w w1 := ((Below.refl _ _).alloc (Nat.le_refl _) _).trans (hb1.mono (by simp)); have hL1 : RowIs w1 (w.heap.size + 1) 5 (s.size + 8) (lentC s (s.size + 8)) := (by simpa using hL))
  have hs1 : w.heap.size + 1 ≤ w1.heap.size := by have := hb1.size; simpa using this
  have hwd := hW.lt
  have hL1lt : w.heap.size + 1 < w1.heap.size := hL1.lt
  have hml : s.size + 8 ≤ maxLen := by unfold maxLen; omega
  clear hL hb1
  go_cut [6] (fun sv wx => sv = .bool true ∧ MidU w wd vP vH F H s wx)
  case first =>
    go_wp2_with (go_at_call 31; have HU := kunp_any (w.heap.size + 1) (s.size + 8) (dl s) w1 (lent_in hs hL1) (HE.out.1.below hB1) (Nat.le_trans HE.out.2 hB1.size); rw [dl_len] at HU; refine HU.mono ?_; clear HU; rintro e w2 ⟨hu, hb2⟩; obtain ⟨a2, c2, rfl, ho2⟩ := HONE.out _ _ _ hu; clear hu)
    have hQ : QS w (w2.alloc (.cells #[.int .i64 gk, .int .u32 gs, .int .u64 gl, .int .u64 gh, .int .u8 g0, .int .u8 g1, .int .u8 g2, .slice a2 os.length c2] 58)) wd vP vH s w2.heap.size (fr8 gk gs gl gh g0 g1 g2 (.slice a2 os.length c2)) (.slice a2 os.length c2) os := by
      have hB2 := hB1.trans (hb2.mono hB1.size)
      refine ⟨hB2.trans ((below1' _ _).mono hB2.size), (hW.below hB2 hW.lt).alloc _, ?_, (hL1.below hb2 hL1.lt).alloc _, RowIs.last rfl rfl, OwnO.keep (ho2.base hB1.size) (below1' _ _)⟩
      have k4 := (hb2.cell (block_lt_of_cell k3)).trans k3
      exact ((below1' w2 _).cell (block_lt_of_cell k4)).trans k4
    have hs2 := hb2.size
    clear k0 k3 hL1
    refine wp_region_held_drew (S := fun w' => QS w w' wd vP vH s w2.heap.size (fr8 gk gs gl gh g0 g1 g2 (.slice a2 os.length c2)) (.slice a2 os.length c2) os) (by kernel_rfl) hQ.drew (fun hHeld => ?_)
    have hs3 : (World.drew (w2.alloc (.cells #[.int .i64 gk, .int .u32 gs, .int .u64 gl, .int .u64 gh, .int .u8 g0, .int .u8 g1, .int .u8 g2, .slice a2 os.length c2] 58))).heap.size = w2.heap.size + 1 := by simp
    generalize World.drew _ = wD at hHeld hs3 ⊢
    have HS3 : Hid (wD.heap.size = w2.heap.size + 1) := hs3
    clear hs3
    refine wpAnyH_take (i := 0) (oi := { dst := some 77, op := _, type := _, pos := _, after := _, guard := _ }) rfl (by kernel_rfl) (by kernel_rfl) (by kernel_rfl) (fun _ _ _ h => h) (Or.inl ⟨by rfl, fun w hS => by have m3 := hS.str; go_simp; rfl⟩) hHeld ?_
    simp only [Act.put, List.setIfInBounds_toArray, List.set_cons_zero, List.set_cons_succ]
    refine wpAnyH_take (i := 1) (oi := { dst := some 78, op := _, type := _, pos := _, after := _, guard := _ }) rfl (by kernel_rfl) (by kernel_rfl) (by kernel_rfl) (fun _ _ _ h => h) (Or.inl ⟨by rfl, fun w hS => by have m3 := hS.str; go_simp; rfl⟩) hHeld ?_
    simp only [Act.put, List.setIfInBounds_toArray, List.set_cons_zero, List.set_cons_succ]
    refine wpAnyH_take (i := 2) (oi := { dst := some 79, op := _, type := _, pos := _, after := _, guard := _ }) rfl (by kernel_rfl) (by kernel_rfl) (by kernel_rfl) (fun _ _ _ h => h) (Or.inl ⟨by rfl, fun w hS => by have m3 := hS.str; go_simp; rfl⟩) hHeld ?_
    simp only [Act.put, List.setIfInBounds_toArray, List.set_cons_zero, List.set_cons_succ]
    refine wpAnyH_take (i := 3) (oi := { dst := some 80, op := _, type := _, pos := _, after := _, guard := _ }) rfl (by kernel_rfl) (by kernel_rfl) (by kernel_rfl) (fun _ _ _ h => h) (yieldsIf_load_mid (by rfl) 80 (.tmp 79) rfl wd 0 rfl (rowOf 72 fun j => .int .u32 (RV j)).toList _ (fun _ h => range74 h.row) Tryz.underlying80 rfl (by rw [Array.length_toList, rowOf_size]; exact info30)) hHeld ?_
    simp only [Act.put, List.setIfInBounds_toArray, List.set_cons_zero, List.set_cons_succ, Array.toArray_toList]
    refine wpAnyH_take (i := 4) (oi := { dst := some 81, op := _, type := _, pos := _, after := _, guard := _ }) rfl (by kernel_rfl) (by kernel_rfl) (by kernel_rfl) (fun _ _ _ h => h) (Or.inl ⟨by rfl, fun w hS => by have m3 := hS.str; go_simp; rfl⟩) hHeld ?_
    simp only [Act.put, List.setIfInBounds_toArray, List.set_cons_zero, List.set_cons_succ]
    refine wpAnyH_take (i := 5) (oi := { dst := some 82, op := _, type := _, pos := _, after := _, guard := _ }) rfl (by kernel_rfl) (by kernel_rfl) (by kernel_rfl) (fun _ _ _ h => h) (Or.inl ⟨by rfl, fun w hS => by have m3 := hS.str; go_simp; rfl⟩) hHeld ?_
    simp only [Act.put, List.setIfInBounds_toArray, List.set_cons_zero, List.set_cons_succ]
    refine wpAnyH_ready (rs := [6, 10]) (by kernel_rfl) (by simp) (AllReadyH.cons (o := { dst := some 83, op := _, type := _, pos := _, after := _, guard := _ }) rfl (fun K hK => ?_) (AllReadyH.cons (o := { dst := some 10, op := _, type := _, pos := _, after := _, guard := _ }) rfl (fun K hK => ?_) AllReadyH.nil))
    · go_simp
      refine (runp_any s (by omega) _).mono ?_
      rintro e w4 ⟨hu4, hb4⟩
      obtain ⟨a4, c4, rfl, ho4⟩ := HONE.out _ _ _ hu4
      clear hu4
      refine hK.out _ _ (hHeld.kept hb4) (fun hHeld => ?_)
      clear hK K
      refine wpAnyH_take (i := 7) (oi := { dst := some 76, op := _, type := _, pos := _, after := _, guard := _ }) rfl (by kernel_rfl) (by kernel_rfl) (by kernel_rfl) (fun _ _ _ h => h) (Or.inl ⟨by rfl, fun w hS => by have m3 := hS.str; go_simp; rfl⟩) hHeld ?_
      simp only [Act.put, List.setIfInBounds_toArray, List.set_cons_zero, List.set_cons_succ]
      refine wpAnyH_take (i := 8) (oi := { dst := some 84, op := _, type := _, pos := _, after := _, guard := _ }) rfl (by kernel_rfl) (by kernel_rfl) (by kernel_rfl) (fun _ _ _ h => h) (Or.inl ⟨by rfl, fun w hS => by have m3 := hS.str; go_simp; rfl⟩) hHeld ?_
      simp only [Act.put, List.setIfInBounds_toArray, List.set_cons_zero, List.set_cons_succ]
      refine wpAnyH_take (i := 9) (oi := { dst := some 85, op := _, type := _, pos := _, after := _, guard := _ }) rfl (by kernel_rfl) (by kernel_rfl) (by kernel_rfl) (fun _ _ _ h => h) (Or.inl ⟨by rfl, fun w hS => by have m3 := hS.str; go_simp; rfl⟩) hHeld ?_
      simp only [Act.put, List.setIfInBounds_toArray, List.set_cons_zero, List.set_cons_succ]
      refine wpAnyH_ready (rs := [10]) (by kernel_rfl) (by simp) (AllReadyH.cons (o := { dst := some 10, op := _, type := _, pos := _, after := _, guard := _ }) rfl (fun K hK => ?_) AllReadyH.nil)
      go_simp
      have R10 : RowIs (w4.alloc (.cells #[.int .i64 0, .int .u32 0, .int .u64 0, .int .u64 0, .int .u8 0, .int .u8 0, .int .u8 0, .slice none 0 0] 58)) w4.heap.size 58 8 (fr8 0 0 0 0 0 0 0 (.slice none 0 0)) := RowIs.last rfl rfl
      refine hK.out _ _ (hHeld.alloc _) (fun hHeld => ?_)
      clear hK K
      have hs4 := hb4.size
      have ho4' := OwnO.keep ho4 (below1' _ (.cells #[.int .i64 0, .int .u32 0, .int .u64 0, .int .u64 0, .int .u8 0, .int .u8 0, .int .u8 0, .slice none 0 0] 58))
      have hz1 : w.heap.size + 1 < w4.heap.size := by have := HS3.out; omega
      have hz3 : w4.heap.size ≠ w2.heap.size := by have := HS3.out; omega
      have hz4 : (Value.slice a2 os.length c2).ownBlock ≠ some w4.heap.size := fun e => by have := (ho2.lt _ e).2; have := HS3.out; omega
      have hz5 : ∀ y, (Value.slice a4 os.length c4).ownBlock = some y → y ≠ w4.heap.size := fun y e => by have := (ho4.lt _ e).2; omega
      refine wpAnyH_ready (rs := [11]) (by kernel_rfl) (by simp) (AllReadyH.cons (o := { dst := none, op := _, type := _, pos := _, after := _, guard := _ }) rfl (fun K hK => ?_) AllReadyH.nil)
      rw [if_pos (by rfl)]
      refine wp_store_row 58 (.tmp 10) (.tmp 84) rfl w4.heap.size (rowOf 8 (fr8 gk gs gl gh g0 g1 g2 (.slice a4 os.length c4))) rfl rfl _ _ R10 (by rw [rowOf_size]; exact infoFr) (by simp [rowOf_size]) (fr8_one _ _ _ _ _ _ _ _ _ _) ?_
      refine hK.out _ _ (hHeld.put hz1 hwd hz3 hz4 _) (fun hHeld => ?_)
      clear hK K
      refine wpAnyH_ready (rs := [12]) (by kernel_rfl) (by simp) (AllReadyH.cons (o := { dst := some 11, op := _, type := _, pos := _, after := _, guard := _ }) rfl (fun K hK => ?_) AllReadyH.nil)
      go_simp
      refine hK.out _ _ hHeld (fun hHeld => ?_)
      clear hK K
      refine wpAnyH_done (by kernel_rfl) ?_ _
      have R11 := R10.setRow (fr8 gk gs gl gh g0 g1 g2 (.slice a4 os.length c4))
      have ho11 : OwnO (World.setRow _ w4.heap.size (rowOf 8 (fr8 gk gs gl gh g0 g1 g2 (.slice a4 os.length c4)))) _ _ _ := own_frame ho4' fun y hy => setRow_other _ _ _ _ (hz5 y hy)
      clear hz1 hz3 hz4 hz5
      have HC8 : World.cell? _ ⟨w2.heap.size, 0, none⟩ = some (.int .i64 gk) ∧ World.cell? _ ⟨w2.heap.size, 1, none⟩ = some (.int .u32 gs) ∧ World.cell? _ ⟨w2.heap.size, 2, none⟩ = some (.int .u64 gl) ∧ World.cell? _ ⟨w2.heap.size, 3, none⟩ = some (.int .u64 gh) ∧ World.cell? _ ⟨w2.heap.size, 4, none⟩ = some (.int .u8 g0) ∧ World.cell? _ ⟨w2.heap.size, 5, none⟩ = some (.int .u8 g1) ∧ World.cell? _ ⟨w2.heap.size, 6, none⟩ = some (.int .u8 g2) ∧ World.cell? _ ⟨w2.heap.size, 7, none⟩ = some (.slice a2 os.length c2) := ⟨hHeld.fr.cell (by omega), hHeld.fr.cell (by omega), hHeld.fr.cell (by omega), hHeld.fr.cell (by omega), hHeld.fr.cell (by omega), hHeld.fr.cell (by omega), hHeld.fr.cell (by omega), hHeld.fr.cell (by omega)⟩
      have HC10 : World.cell? _ ⟨w4.heap.size, 0, none⟩ = some (.int .i64 gk) ∧ World.cell? _ ⟨w4.heap.size, 1, none⟩ = some (.int .u32 gs) ∧ World.cell? _ ⟨w4.heap.size, 2, none⟩ = some (.int .u64 gl) ∧ World.cell? _ ⟨w4.heap.size, 3, none⟩ = some (.int .u64 gh) ∧ World.cell? _ ⟨w4.heap.size, 4, none⟩ = some (.int .u8 g0) ∧ World.cell? _ ⟨w4.heap.size, 5, none⟩ = some (.int .u8 g1) ∧ World.cell? _ ⟨w4.heap.size, 6, none⟩ = some (.int .u8 g2) ∧ World.cell? _ ⟨w4.heap.size, 7, none⟩ = some (.slice a4 os.length c4) := ⟨R11.cell (by omega), R11.cell (by omega), R11.cell (by omega), R11.cell (by omega), R11.cell (by omega), R11.cell (by omega), R11.cell (by omega), R11.cell (by omega)⟩
      obtain ⟨y0, y1, y2, y3, y4, y5, y6, y7⟩ := HC8
      obtain ⟨z0, z1, z2, z3, z4, z5, z6, z7⟩ := HC10
      have HSF := sameFrame_any ⟨gk, gs, gl, gh, g0, g1, g2, os⟩ a2 a4 c2 c4 _ (by dsimp only; omega) hHeld.own.is ho11.is
      unfold Frm.val at HSF
      dsimp only at HSF
      have HSF' : Hid (Calls _ _ _ _ _) := HSF
      clear HSF R10
      have HQ : Hid (QS _ _ _ _ _ _ _ _ _ _) := hHeld
      have HL2 : Hid (∀ y, (Value.slice a2 os.length c2).ownBlock = some y → w.heap.size + 1 < y ∧ w.heap.size ≤ y ∧ y < w2.heap.size) := fun y e => by have h := ho2.lt y e; have h1 := h.1; have h2 := h.2; exact ⟨by omega, by omega, h2⟩
      clear hHeld hQ ho2 ho4 ho4' ho11 R11 hB1 hb2
      go_wp2_with (first
        | (go_at_call 129; refine HSF'.out.mono ?_; rintro e w6 ⟨rfl, hb6⟩; have Q6 := HQ.out.kept hb6; have f67 : w6.cell? ⟨w2.heap.size, 7, none⟩ = some (.slice a2 os.length c2) := Q6.fr.cell (by omega))
        | (go_at_call 83; refine (keep_first (X := fun b => b = w.heap.size ∨ b = w.heap.size + 1) HO.out.1 HO.out.2 Q6.below _ rfl (vb := .slice none 0 0) (vo := .slice a2 os.length c2) (vl := .slice none 0 0) (fun b e => ⟨(HL2.out b (ownX_ops e)).2.1, Nat.lt_of_lt_of_le (HL2.out b (ownX_ops e)).2.2 (Nat.le_of_lt Q6.fr.lt)⟩) (ops_raw Q6.own rfl) (by decide) ?hs2 (by decide) ?hX).mono ?_; (case hs2 => exact hG3); (case hX => exact fun b e => ⟨by rcases e with e | e <;> omega, by have := Q6.lent.lt; rcases e with e | e <;> omega, fun h => by have := (HL2.out b (ownX_ops h)).1; rcases e with e | e <;> omega⟩); rintro e w7 ⟨rfl, HM1, -, HX7⟩; have HMU : MidU w wd vP vH F H s w7 := ⟨HM1, (World.cell?_of_block (a := ⟨w.heap.size, 3, none⟩) (HX7 _ (Or.inl rfl))).trans Q6.str, (HX7 _ (Or.inr rfl)).trans Q6.lent⟩; clear HM1 HX7))
      go_meet
      exact ⟨rfl, HMU⟩
    · go_simp
      have R10 : RowIs (wD.alloc (.cells #[.int .i64 0, .int .u32 0, .int .u64 0, .int .u64 0, .int .u8 0, .int .u8 0, .int .u8 0, .slice none 0 0] 58)) wD.heap.size 58 8 (fr8 0 0 0 0 0 0 0 (.slice none 0 0)) := RowIs.last rfl rfl
      refine hK.out _ _ (hHeld.alloc _) (fun hHeld => ?_)
      clear hK K
      refine wpAnyH_ready (rs := [6]) (by kernel_rfl) (by simp) (AllReadyH.cons (o := { dst := some 83, op := _, type := _, pos := _, after := _, guard := _ }) rfl (fun K hK => ?_) AllReadyH.nil)
      go_simp
      refine (runp_any s (by omega) _).mono ?_
      rintro e w4 ⟨hu4, hb4⟩
      obtain ⟨a4, c4, rfl, ho4⟩ := HONE.out _ _ _ hu4
      clear hu4
      refine hK.out _ _ (hHeld.kept hb4) (fun hHeld => ?_)
      clear hK K
      refine wpAnyH_take (i := 7) (oi := { dst := some 76, op := _, type := _, pos := _, after := _, guard := _ }) rfl (by kernel_rfl) (by kernel_rfl) (by kernel_rfl) (fun _ _ _ h => h) (Or.inl ⟨by rfl, fun w hS => by have m3 := hS.str; go_simp; rfl⟩) hHeld ?_
      simp only [Act.put, List.setIfInBounds_toArray, List.set_cons_zero, List.set_cons_succ]
      refine wpAnyH_take (i := 8) (oi := { dst := some 84, op := _, type := _, pos := _, after := _, guard := _ }) rfl (by kernel_rfl) (by kernel_rfl) (by kernel_rfl) (fun _ _ _ h => h) (Or.inl ⟨by rfl, fun w hS => by have m3 := hS.str; go_simp; rfl⟩) hHeld ?_
      simp only [Act.put, List.setIfInBounds_toArray, List.set_cons_zero, List.set_cons_succ]
      refine wpAnyH_take (i := 9) (oi := { dst := some 85, op := _, type := _, pos := _, after := _, guard := _ }) rfl (by kernel_rfl) (by kernel_rfl) (by kernel_rfl) (fun _ _ _ h => h) (Or.inl ⟨by rfl, fun w hS => by have m3 := hS.str; go_simp; rfl⟩) hHeld ?_
      simp only [Act.put, List.setIfInBounds_toArray, List.set_cons_zero, List.set_cons_succ]
      have ho4' := ho4
      have R10 := R10.below hb4 R10.lt
      have hz1 : w.heap.size + 1 < wD.heap.size := by have := HS3.out; omega
      have hz3 : wD.heap.size ≠ w2.heap.size := by have := HS3.out; omega
      have hz4 : (Value.slice a2 os.length c2).ownBlock ≠ some wD.heap.size := fun e => by have := (ho2.lt _ e).2; have := HS3.out; omega
      have hz5 : ∀ y, (Value.slice a4 os.length c4).ownBlock = some y → y ≠ wD.heap.size := fun y e => by have h := (ho4.lt _ e).1; have hz : (wD.alloc (.cells #[.int .i64 0, .int .u32 0, .int .u64 0, .int .u64 0, .int .u8 0, .int .u8 0, .int .u8 0, .slice none 0 0] 58)).heap.size = wD.heap.size + 1 := (by simp); omega
      refine wpAnyH_ready (rs := [11]) (by kernel_rfl) (by simp) (AllReadyH.cons (o := { dst := none, op := _, type := _, pos := _, after := _, guard := _ }) rfl (fun K hK => ?_) AllReadyH.nil)
      rw [if_pos (by rfl)]
      refine wp_store_row 58 (.tmp 10) (.tmp 84) rfl wD.heap.size (rowOf 8 (fr8 gk gs gl gh g0 g1 g2 (.slice a4 os.length c4))) rfl rfl _ _ R10 (by rw [rowOf_size]; exact infoFr) (by simp [rowOf_size]) (fr8_one _ _ _ _ _ _ _ _ _ _) ?_
      refine hK.out _ _ (hHeld.put hz1 hwd hz3 hz4 _) (fun hHeld => ?_)
      clear hK K
      refine wpAnyH_ready (rs := [12]) (by kernel_rfl) (by simp) (AllReadyH.cons (o := { dst := some 11, op := _, type := _, pos := _, after := _, guard := _ }) rfl (fun K hK => ?_) AllReadyH.nil)
      go_simp
      refine hK.out _ _ hHeld (fun hHeld => ?_)
      clear hK K
      refine wpAnyH_done (by kernel_rfl) ?_ _
      have R11 := R10.setRow (fr8 gk gs gl gh g0 g1 g2 (.slice a4 os.length c4))
      have ho11 : OwnO (World.setRow _ wD.heap.size (rowOf 8 (fr8 gk gs gl gh g0 g1 g2 (.slice a4 os.length c4)))) _ _ _ := own_frame ho4' fun y hy => setRow_other _ _ _ _ (hz5 y hy)
      clear hz1 hz3 hz4 hz5
      have HC8 : World.cell? _ ⟨w2.heap.size, 0, none⟩ = some (.int .i64 gk) ∧ World.cell? _ ⟨w2.heap.size, 1, none⟩ = some (.int .u32 gs) ∧ World.cell? _ ⟨w2.heap.size, 2, none⟩ = some (.int .u64 gl) ∧ World.cell? _ ⟨w2.heap.size, 3, none⟩ = some (.int .u64 gh) ∧ World.cell? _ ⟨w2.heap.size, 4, none⟩ = some (.int .u8 g0) ∧ World.cell? _ ⟨w2.heap.size, 5, none⟩ = some (.int .u8 g1) ∧ World.cell? _ ⟨w2.heap.size, 6, none⟩ = some (.int .u8 g2) ∧ World.cell? _ ⟨w2.heap.size, 7, none⟩ = some (.slice a2 os.length c2) := ⟨hHeld.fr.cell (by omega), hHeld.fr.cell (by omega), hHeld.fr.cell (by omega), hHeld.fr.cell (by omega), hHeld.fr.cell (by omega), hHeld.fr.cell (by omega), hHeld.fr.cell (by omega), hHeld.fr.cell (by omega)⟩
      have HC10 : World.cell? _ ⟨wD.heap.size, 0, none⟩ = some (.int .i64 gk) ∧ World.cell? _ ⟨wD.heap.size, 1, none⟩ = some (.int .u32 gs) ∧ World.cell? _ ⟨wD.heap.size, 2, none⟩ = some (.int .u64 gl) ∧ World.cell? _ ⟨wD.heap.size, 3, none⟩ = some (.int .u64 gh) ∧ World.cell? _ ⟨wD.heap.size, 4, none⟩ = some (.int .u8 g0) ∧ World.cell? _ ⟨wD.heap.size, 5, none⟩ = some (.int .u8 g1) ∧ World.cell? _ ⟨wD.heap.size, 6, none⟩ = some (.int .u8 g2) ∧ World.cell? _ ⟨wD.heap.size, 7, none⟩ = some (.slice a4 os.length c4) := ⟨R11.cell (by omega), R11.cell (by omega), R11.cell (by omega), R11.cell (by omega), R11.cell (by omega), R11.cell (by omega), R11.cell (by omega), R11.cell (by omega)⟩
      obtain ⟨y0, y1, y2, y3, y4, y5, y6, y7⟩ := HC8
      obtain ⟨z0, z1, z2, z3, z4, z5, z6, z7⟩ := HC10
      have HSF := sameFrame_any ⟨gk, gs, gl, gh, g0, g1, g2, os⟩ a2 a4 c2 c4 _ (by dsimp only; omega) hHeld.own.is ho11.is
      unfold Frm.val at HSF
      dsimp only at HSF
      have HSF' : Hid (Calls _ _ _ _ _) := HSF
      clear HSF R10
      have HQ : Hid (QS _ _ _ _ _ _ _ _ _ _) := hHeld
      have HL2 : Hid (∀ y, (Value.slice a2 os.length c2).ownBlock = some y → w.heap.size + 1 < y ∧ w.heap.size ≤ y ∧ y < w2.heap.size) := fun y e => by have h := ho2.lt y e; have h1 := h.1; have h2 := h.2; exact ⟨by omega, by omega, h2⟩
      clear hHeld hQ ho2 ho4 ho4' ho11 R11 hB1 hb2
      go_wp2_with (first
        | (go_at_call 129; refine HSF'.out.mono ?_; rintro e w6 ⟨rfl, hb6⟩; have Q6 := HQ.out.kept hb6; have f67 : w6.cell? ⟨w2.heap.size, 7, none⟩ = some (.slice a2 os.length c2) := Q6.fr.cell (by omega))
        | (go_at_call 83; refine (keep_first (X := fun b => b = w.heap.size ∨ b = w.heap.size + 1) HO.out.1 HO.out.2 Q6.below _ rfl (vb := .slice none 0 0) (vo := .slice a2 os.length c2) (vl := .slice none 0 0) (fun b e => ⟨(HL2.out b (ownX_ops e)).2.1, Nat.lt_of_lt_of_le (HL2.out b (ownX_ops e)).2.2 (Nat.le_of_lt Q6.fr.lt)⟩) (ops_raw Q6.own rfl) (by decide) ?hs2 (by decide) ?hX).mono ?_; (case hs2 => exact hG3); (case hX => exact fun b e => ⟨by rcases e with e | e <;> omega, by have := Q6.lent.lt; rcases e with e | e <;> omega, fun h => by have := (HL2.out b (ownX_ops h)).1; rcases e with e | e <;> omega⟩); rintro e w7 ⟨rfl, HM1, -, HX7⟩; have HMU : MidU w wd vP vH F H s w7 := ⟨HM1, (World.cell?_of_block (a := ⟨w.heap.size, 3, none⟩) (HX7 _ (Or.inl rfl))).trans Q6.str, (HX7 _ (Or.inr rfl)).trans Q6.lent⟩; clear HM1 HX7))
      go_meet
      exact ⟨rfl, HMU⟩
  case rest =>
    obtain ⟨rfl, hM⟩ := hcut
    have m3 := hM.2.1
    have HL7 : Hid (RowIs wc (w.heap.size + 1) 5 (s.size + 8) (lentC s (s.size + 8))) := hM.2.2
    have HM1 : Hid (Mid1 w wd vP vH F H (fun b => b = w.heap.size ∨ b = w.heap.size + 1) wc) := hM.1
    have hs11 : s.size + 8 + 3 ≤ 140737488355328 := by omega
    clear hM k0 k3 hB1 hL1 hL1lt hs1 hW HONE HE hwd
    go_wp2_with (first
      | (go_at_call 131; refine (still_any s (w.heap.size + 1) (s.size + 8) hs _ (fun i hi => HL7.out.cell hi)).mono ?_; rintro e w8 ⟨rfl, nq, rfl⟩)
      | (go_at_call 83; refine (keep_again HO.out.1 HO.out.2 HM1.out (Below.drewsK (Below.refl _ _) nq) _ rfl (ub := .slice (some ⟨w.heap.size + 1, 0, none⟩) (s.size + 8) (s.size + 8)) (uo := .slice none 0 0) (ul := .slice none 0 0) (fun b e => Or.inr (ownX_bytes e)) (lent_raw (HL7.out.drewM nq) hml rfl) hs11 (by decide) (by decide)).mono ?_; rintro e w9 ⟨rfl, hl⟩))
    go_ret
    exact ⟨rfl, hl⟩
end Go.Proofs.YtgccjefbedpmpaaGreatDoor

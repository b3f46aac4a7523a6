import Derived.Test.YtgccjefbedpmpaaGreatDoorZFrmF
import Derived.Test.YtgccjefbedpmpaaGreatDoorGAppV
namespace Go.Proofs.YtgccjefbedpmpaaGreatDoor
open Go.RowKit
/-- What the calls need of the variables of packages: the sentinels, the tables, the handle. -/
structure Env (w : World) : Prop where
  sents : Sents w
  tens : Tens w
  handle : Handle w
  glt : 11 < w.heap.size
  table : ∀ j, j < 64 → w.cell? ⟨11, j, none⟩ = some (.int .u32 (KK j))
theorem Env.below {w w' : World} (h : Env w) (hb : Below w.heap.size w w') : Env w' :=
  ⟨h.sents.below hb, h.tens.below hb, (hb.cell (block_lt_of_cell h.handle)).trans h.handle, Nat.lt_of_lt_of_le h.glt hb.size, fun j hj => (hb.cell h.glt).trans (h.table j hj)⟩
theorem OwnB.base {w : World} {B C : Nat} {v : Value} {l : List Int} (h : OwnB w B v l) (hc : C ≤ B) : OwnB w C v l := by
  refine ⟨h.1, ?_⟩
  rcases h.2 with h2 | ⟨g, cap, cur, h3, h4, h5⟩
  · exact Or.inl h2
  · exact Or.inr ⟨g, cap, cur, h3, Nat.le_trans hc h4, h5⟩
/-- Numbers of a frame that are of their types. -/
structure FrmT (f : Frm) : Prop where
  kd : -9223372036854775808 ≤ f.kd ∧ f.kd ≤ 9223372036854775807
  ss : 0 ≤ f.ss ∧ f.ss < 4294967296
  lo : 0 ≤ f.lo ∧ f.lo < 18446744073709551616
  hi : 0 ≤ f.hi ∧ f.hi < 18446744073709551616
  dg : Byt [f.d0, f.d1, f.d2]
  ops : ∀ o ∈ f.ops, OpT o
theorem FrmT.t {f : Frm} (h : FrmT f) : FrT f := ⟨h.lo.1, fun o ho => (h.ops o ho).rf.1, h.dg⟩
/-- What lies in memory of a frame's bytes so far. -/
theorem ok_kinds {o : Opn} (h : o.ok = true) : o.kd = 1 ∨ o.kd = 2 := by
  unfold Opn.ok okOp at h
  simp only [Bool.and_eq_true] at h
  have := h.2
  split at this
  · exact Or.inl (by assumption)
  · simp only [Bool.and_eq_true, decide_eq_true_eq] at this
    exact Or.inr this.1.1
theorem opsOk_ok {k lo hi : Int} : ∀ (os : List Opn) (p : Int), opsOk k lo hi p os = true → ∀ o ∈ os, o.ok = true := by
  intro os
  induction os with
  | nil => intro p _ o h; cases h
  | cons o os ih =>
    intro p h x hx
    unfold opsOk at h
    simp only [Bool.and_eq_true] at h
    rcases List.mem_cons.1 hx with rfl | hx
    · exact h.1.1
    · exact ih _ h.2.2 x hx
theorem osB_len : ∀ os : List Opn, (∀ o ∈ os, OpW o) → (osB os).length ≤ os.length * 51 := by
  intro os
  induction os with
  | nil => intro _; simp [osB]
  | cons o os ih =>
    intro h
    have ho := h o (List.mem_cons_self ..)
    have s1 := (vn_size 9 o.cl.toNat (by have := ho.cl; omega)).2
    have s2 := (vn_size 9 o.ck.toNat (by have := ho.ck; omega)).2
    have s3 := (vn_size 9 o.st.toNat (by have := ho.st; omega)).2
    have s4 := (vn_size 9 o.rf.toNat (by have := ho.rf; omega)).2
    have s5 := (vn_size 9 o.ch.toNat (by have := ho.ch; omega)).2
    have := ih fun x hx => h x (List.mem_cons_of_mem _ hx)
    have e : (if o.kd = 1 then vn o.ch.toNat else []).length ≤ 10 := by split; omega; simp
    simp only [osB, opB, List.length_append, List.length_cons]
    omega
theorem osB_app (a b : List Opn) : osB (a ++ b) = osB a ++ osB b := by
  induction a with
  | nil => rfl
  | cons o a ih => simp [osB, ih, List.append_assoc]
theorem osB_take (os : List Opn) {i : Nat} (h : i < os.length) : osB (os.take (i + 1)) = osB (os.take i) ++ opB os[i] := by
  rw [List.take_succ_eq_append_getElem h, osB_app]
  simp [osB]
theorem own_new1 (w : World) (B : Nat) (x : Int) (hB : B ≤ w.heap.size) : OwnB (w.alloc (.cells #[.int .u8 x] 5)) B (.slice (some ⟨w.heap.size, 0, none⟩) 1 1) [x] :=
  ⟨rfl, .inr ⟨w.heap.size, 1, #[.int .u8 x], rfl, hB, heap_alloc_new w _, Nat.le_refl _, by decide, rfl, rfl⟩⟩
theorem dig3_cells {w : World} {g : Nat} {a b c : Int} (h4 : w.cell? ⟨g, 4, none⟩ = some (.int .u8 a)) (h5 : w.cell? ⟨g, 5, none⟩ = some (.int .u8 b)) (h6 : w.cell? ⟨g, 6, none⟩ = some (.int .u8 c)) : ∀ j u, (u8s [a, b, c])[j]? = some u → w.cell? ((⟨g, 4, none⟩ : Addr).add j) = some u := by
  intro j u h
  match j, h with
  | 0, h => cases h; exact h4
  | 1, h => cases h; exact h5
  | 2, h => cases h; exact h6
theorem OwnB.row {w : World} {B : Nat} {v : Value} {l : List Int} (h : OwnB w B v l) : w.ownsRow B 5 1 v l.length (u8s l) := h
theorem OwnB.view {w : World} {B : Nat} {v : Value} {l : List Int} (h : OwnB w B v l) (hl : l ≠ []) : ∃ g cap, v = .slice (some ⟨g, 0, none⟩) l.length cap ∧ l.length ≤ cap ∧ g < w.heap.size ∧ ∀ i (h : i < l.length), w.cell? ⟨g, 0 + i, none⟩ = some (.int .u8 l[i]) := by
  have hh := h.row
  rcases h.2 with ⟨rfl, h0⟩ | ⟨g, cap, cur, rfl, h3, h4, h5, h6, h7, h8⟩
  · exact absurd (List.eq_nil_of_length_eq_zero h0) hl
  · refine ⟨g, cap, rfl, h5, (h.lt g rfl).2, fun i hi => ?_⟩
    have := hh.cellAt i (by omega)
    rw [Nat.zero_add, this]
    simp [u8s, hi]
theorem chk_cells (w : World) (s : ByteArray) : ∀ j u, (u8s (chk s))[j]? = some u → (w.alloc (.cells #[.int .u8 (dig s 0), .int .u8 (dig s 1), .int .u8 (dig s 2)] 49)).cell? ((⟨w.heap.size, 0, none⟩ : Addr).add j) = some u := by
  intro j u h
  match j, h with
  | 0, h => cases h; exact (cell_of_row _ _ _ _ _ _ (heap_alloc_new w _)).trans rfl
  | 1, h => cases h; exact (cell_of_row _ _ _ _ _ _ (heap_alloc_new w _)).trans rfl
  | 2, h => cases h; exact (cell_of_row _ _ _ _ _ _ (heap_alloc_new w _)).trans rfl
theorem OwnB.keep {w w' : World} {B : Nat} {v : Value} {l : List Int} (h : OwnB w B v l) (hb : Below w.heap.size w w') : OwnB w' B v l := own_frame h fun g hg => hb.block g (h.lt g hg).2
theorem OwnB.alloc {w : World} {B : Nat} {v : Value} {l : List Int} (h : OwnB w B v l) (o : Obj) : OwnB (w.alloc o) B v l := World.ownsRow.alloc h o
set_option maxRecDepth 100000 in
set_option maxHeartbeats 4000000 in
theorem wpack_bad (f : Frm) (a : Option Addr) (cap : Nat) (hT : FrmT f) (w : World) (hE : Env w) (hO : OpsIs w a f.ops) (hok : okFrm f = false) :
    Calls Tryz.prog 58 #[f.val (.slice a f.ops.length cap)] w fun e w' => (∃ x, e = .returned (.tuple #[.slice none 0 0, x]) ∧ Ref w' 8 x) ∧ Below w.heap.size w w' := by
  obtain ⟨k, ss, lo, hi, d0, d1, d2, os⟩ := f
  unfold Frm.val
  dsimp only at *
  have hz : Below w.heap.size w (w.alloc (.cells #[.int .i64 k, .int .u32 ss, .int .u64 lo, .int .u64 hi, .int .u8 d0, .int .u8 d1, .int .u8 d2, .slice a os.length cap] 58)) := (Below.refl _ _).alloc (Nat.le_refl _) _
  have hR := rightFrame_any k ss lo hi d0 d1 d2 a cap os hT.ops _ (hE.sents.below hz) (hE.tens.below hz) (hO.below hz)
  rw [hok] at hR
  have HR : Hid (Calls _ _ _ _ _) := hR
  clear hR hok hT hE hO
  go_enter Tryz.func58, Tryz.ntmps58
  go_wp2_with (go_at_call 106; refine HR.out.mono ?_; rintro e w1 ⟨x, rfl, -, hx, hb1⟩; obtain ⟨g, rfl, hc⟩ := hx rfl)
  go_ret2
  exact ⟨⟨_, rfl, g, rfl, hc⟩, hz.trans (hb1.mono hz.size)⟩
set_option maxRecDepth 100000 in
set_option maxHeartbeats 4000000 in
theorem wbytes_good (f : Frm) (a : Option Addr) (cap : Nat) (hT : FrmT f) (w : World) (hE : Env w) (hO : OpsIs w a f.ops) (hok : okFrm f = true) :
    Calls Tryz.prog 107 #[f.val (.slice a f.ops.length cap)] w fun e w' => (∃ v, e = .returned v ∧ OwnB w' w.heap.size v (packL f)) ∧ Below w.heap.size w w' := by
  have hW := okFrm_w hok hT.t.lo hT.t.rf
  have hop : ∀ o ∈ f.ops, o.ok = true := by
    rw [okFrm_eq] at hok
    simp only [Bool.and_eq_true] at hok
    exact opsOk_ok _ _ hok.2.2.2.2
  have hby := frB_byt hW hT.dg
  obtain ⟨k, ss, lo, hi, d0, d1, d2, os⟩ := f
  unfold Frm.val
  dsimp only at *
  have hz : Below w.heap.size w (w.alloc (.cells #[.int .i64 k, .int .u32 ss, .int .u64 lo, .int .u64 hi, .int .u8 d0, .int .u8 d1, .int .u8 d2, .slice a os.length cap] 58)) := (Below.refl _ _).alloc (Nat.le_refl _) _
  obtain ⟨⟨k1, k2⟩, ⟨a1, b1⟩, ⟨a2, b2, c2⟩, ⟨a3, b3, c3⟩, hd, ⟨n1, n2⟩, ho⟩ := hW
  dsimp only at *
  obtain ⟨i0, hi0, hz0, hz1, hz2⟩ := info_parts info5
  have hk : k = 1 ∨ k = 2 ∨ k = 3 ∨ k = 4 ∨ k = 5 := by omega
  rcases hk with rfl | rfl | rfl | rfl | rfl
  · skip
    clear hd
    clear c2 c3
    obtain rfl := n2 (by decide)
    have Hr : Hid (∀ W, Calls Tryz.prog 182 #[.int .i64 1] W fun e w' => e = .returned (.bool true) ∧ w' = W) := hasRange_any 1
    have Ho : Hid (∀ W, Calls Tryz.prog 183 #[.int .i64 1] W fun e w' => e = .returned (.bool false) ∧ w' = W) := hasOps_any 1
    have hzs : (w.alloc (.cells #[.int .i64 1, .int .u32 ss, .int .u64 lo, .int .u64 hi, .int .u8 d0, .int .u8 d1, .int .u8 d2, .slice a 0 cap] 58)).heap.size = w.heap.size + 1 := by simp
    have x1 : IntKind.u64.wrap ss = ss := u64r _ (by omega)
    have s1 := (vn_size 9 ss.toNat (by omega)).2
    have s2 := (vn_size 9 lo.toNat (by omega)).2
    have s3 := (vn_size 9 hi.toNat (by omega)).2
    have HOW : Hid (∀ o ∈ ([] : List Opn), OpW o) := ho
    have HE : Hid (∀ W, Below (w.heap.size + 1) (w.alloc (.cells #[.int .i64 1, .int .u32 ss, .int .u64 lo, .int .u64 hi, .int .u8 d0, .int .u8 d1, .int .u8 d2, .slice a 0 cap] 58)) W → Env W) := fun W hb => (hE.below hz).below (hzs ▸ hb)
    have HBY : Hid (Byt ((((([(1 : Int)] ++ vn ss.toNat) ++ vn lo.toNat) ++ vn hi.toNat) ++ [d0, d1, d2]) ++ osB ([] : List Opn))) := by
      have e : (((([(1 : Int)] ++ vn ss.toNat) ++ vn lo.toNat) ++ vn hi.toNat) ++ [d0, d1, d2]) ++ osB ([] : List Opn) = frB ⟨1, ss, lo, hi, d0, d1, d2, []⟩ := by simp [frB, osB]
      rw [e]; exact hby
    have hB1 : w.heap.size + 1 ≤ (w.alloc (.cells #[.int .i64 1, .int .u32 ss, .int .u64 lo, .int .u64 hi, .int .u8 d0, .int .u8 d1, .int .u8 d2, .slice a 0 cap] 58)).heap.size := by simp
    have hb1' : Below (w.heap.size + 1) (w.alloc (.cells #[.int .i64 1, .int .u32 ss, .int .u64 lo, .int .u64 hi, .int .u8 d0, .int .u8 d1, .int .u8 d2, .slice a 0 cap] 58)) (w.alloc (.cells #[.int .i64 1, .int .u32 ss, .int .u64 lo, .int .u64 hi, .int .u8 d0, .int .u8 d1, .int .u8 d2, .slice a 0 cap] 58)) := Below.refl _ _
    have y1' : ((w.alloc (.cells #[.int .i64 1, .int .u32 ss, .int .u64 lo, .int .u64 hi, .int .u8 d0, .int .u8 d1, .int .u8 d2, .slice a 0 cap] 58)).alloc (.cells #[.int .u8 1] 5)).cell? ⟨w.heap.size, 1, none⟩ = some (.int .u32 ss) := (World.cell?_alloc_lt _ _ ⟨w.heap.size, 1, none⟩ (show w.heap.size < (w.alloc (.cells #[.int .i64 1, .int .u32 ss, .int .u64 lo, .int .u64 hi, .int .u8 d0, .int .u8 d1, .int .u8 d2, .slice a 0 cap] 58)).heap.size from hB1)).trans ((cell_of_row _ _ _ _ _ _ (heap_alloc_new w _)).trans rfl)
    have HN1 : OwnB ((w.alloc (.cells #[.int .i64 1, .int .u32 ss, .int .u64 lo, .int .u64 hi, .int .u8 d0, .int .u8 d1, .int .u8 d2, .slice a 0 cap] 58)).alloc (.cells #[.int .u8 1] 5)) (w.heap.size + 1) (.slice (some ⟨w.heap.size + 1, 0, none⟩) 1 1) [(1 : Int)] := by
      have h := own_new1 (w.alloc (.cells #[.int .i64 1, .int .u32 ss, .int .u64 lo, .int .u64 hi, .int .u8 d0, .int .u8 d1, .int .u8 d2, .slice a 0 cap] 58)) (w.heap.size + 1) 1 hB1
      rw [hzs] at h
      exact h
    have hN1 : w.heap.size + 1 ≤ ((w.alloc (.cells #[.int .i64 1, .int .u32 ss, .int .u64 lo, .int .u64 hi, .int .u8 d0, .int .u8 d1, .int .u8 d2, .slice a 0 cap] 58)).alloc (.cells #[.int .u8 1] 5)).heap.size := by simp
    have hb1'' : Below (w.heap.size + 1) (w.alloc (.cells #[.int .i64 1, .int .u32 ss, .int .u64 lo, .int .u64 hi, .int .u8 d0, .int .u8 d1, .int .u8 d2, .slice a 0 cap] 58)) ((w.alloc (.cells #[.int .i64 1, .int .u32 ss, .int .u64 lo, .int .u64 hi, .int .u8 d0, .int .u8 d1, .int .u8 d2, .slice a 0 cap] 58)).alloc (.cells #[.int .u8 1] 5)) := hb1'.alloc hB1 _
    go_enter Tryz.func107, Tryz.ntmps107
    go_wp2_with (first
      | (go_at_call 181; have hq := ho3; clear hq; refine (appVar_int hi a3 (by omega) (w.heap.size + 1) _ (([(1 : Int)] ++ vn ss.toNat) ++ vn lo.toNat) _ hB3 (by simp only [List.length_append, List.length_cons, List.length_nil]; omega) ho3).mono ?_; rintro e w4 ⟨v4, rfl, ho4, r4⟩; have hb4 : Below (w.heap.size + 1) (w.alloc (.cells #[.int .i64 1, .int .u32 ss, .int .u64 lo, .int .u64 hi, .int .u8 d0, .int .u8 d1, .int .u8 d2, .slice a 0 cap] 58)) w4 := hb3.trans (r4.below ho3 hB3); have hB4 : w.heap.size + 1 ≤ w4.heap.size := Nat.le_trans (by simp) hb4.size; obtain ⟨t40, t41, t42, t43, t44, t45, t46, t47⟩ := fr8N (hzs ▸ hb4) rfl)
      | (go_at_call 181; have hq := ho2; clear hq; refine (appVar_int lo a2 (by omega) (w.heap.size + 1) _ ([(1 : Int)] ++ vn ss.toNat) _ hB2 (by simp only [List.length_append, List.length_cons, List.length_nil]; omega) ho2).mono ?_; rintro e w3 ⟨v3, rfl, ho3, r3⟩; have hb3 : Below (w.heap.size + 1) (w.alloc (.cells #[.int .i64 1, .int .u32 ss, .int .u64 lo, .int .u64 hi, .int .u8 d0, .int .u8 d1, .int .u8 d2, .slice a 0 cap] 58)) w3 := hb2.trans (r3.below ho2 hB2); have hB3 : w.heap.size + 1 ≤ w3.heap.size := Nat.le_trans (by simp) hb3.size; obtain ⟨t30, t31, t32, t33, t34, t35, t36, t37⟩ := fr8N (hzs ▸ hb3) rfl)
      | (go_at_call 181; refine (appVar_int ss a1 (by omega) (w.heap.size + 1) _ [1] _ hN1 (by simp) HN1).mono ?_; rintro e w2 ⟨v2, rfl, ho2, r2⟩; have hb2 : Below (w.heap.size + 1) (w.alloc (.cells #[.int .i64 1, .int .u32 ss, .int .u64 lo, .int .u64 hi, .int .u8 d0, .int .u8 d1, .int .u8 d2, .slice a 0 cap] 58)) w2 := hb1''.trans (r2.below HN1 hN1); have hB2 : w.heap.size + 1 ≤ w2.heap.size := Nat.le_trans (by simp) hb2.size; obtain ⟨t20, t21, t22, t23, t24, t25, t26, t27⟩ := fr8N (hzs ▸ hb2) rfl)
      | (go_at_call 182; refine (Hr.out _).mono ?_; rintro e wx ⟨rfl, hwx⟩; obtain rfl := hwx.symm)
      | (go_at_call 183; refine (Ho.out _).mono ?_; rintro e wx ⟨rfl, hwx⟩; obtain rfl := hwx.symm)
      | (at_builtin; (refine wpList_append_own_at _ rfl (.tmp 29) (.tmp 31) 59 rfl (w.heap.size + 1) 5 i0 (.int .u8 0) 1 1 Tryz.underlying59 hi0 hz0 hz1 hz2 rfl (by decide) v4 ((([(1 : Int)] ++ vn ss.toNat) ++ vn lo.toNat) ++ vn hi.toNat).length (u8s ((([(1 : Int)] ++ vn ss.toNat) ++ vn lo.toNat) ++ vn hi.toNat)) rfl ho4.row ⟨w.heap.size, 4, none⟩ 3 3 (u8s [d0, d1, d2]) rfl rfl ?hn (u8s_one _) (by unfold maxLen; simp only [List.length_append, List.length_cons, List.length_nil]; omega) (by simp only [List.length_append, List.length_cons, List.length_nil]; omega) hB4 ?_; (case hn => exact dig3_cells t44 t45 t46); intro v5 w5 hq5 hg5 _ hat5; have ho5 : OwnB w5 (w.heap.size + 1) v5 (((([(1 : Int)] ++ vn ss.toNat) ++ vn lo.toNat) ++ vn hi.toNat) ++ [d0, d1, d2]) := (by unfold OwnB; rw [List.length_append, u8s_append]; exact hq5); have hb5 : Below (w.heap.size + 1) (w.alloc (.cells #[.int .i64 1, .int .u32 ss, .int .u64 lo, .int .u64 hi, .int .u8 d0, .int .u8 d1, .int .u8 d2, .slice a 0 cap] 58)) w5 := hb4.trans ((AppR.refl v4 w4).grow hg5 hat5 |>.below ho4 hB4); have hB5 : w.heap.size + 1 ≤ w5.heap.size := Nat.le_trans (by simp) hb5.size; obtain ⟨t50, t51, t52, t53, t54, t55, t56, t57⟩ := fr8N (hzs ▸ hb5) rfl)))
    go_loopw [3, 46] (fun vv iv wr => ∃ i : Nat, i ≤ ([] : List Opn).length ∧ iv = .int .i64 i ∧ OwnB wr (w.heap.size + 1) vv ((((([(1 : Int)] ++ vn ss.toNat) ++ vn lo.toNat) ++ vn hi.toNat) ++ [d0, d1, d2]) ++ osB (([] : List Opn).take i)) ∧ Below (w.heap.size + 1) (w.alloc (.cells #[.int .i64 1, .int .u32 ss, .int .u64 lo, .int .u64 hi, .int .u8 d0, .int .u8 d1, .int .u8 d2, .slice a 0 cap] 58)) wr) (fun _ iv _ => ([] : List Opn).length - (intOf iv).toNat)
    case atStart => exact ⟨0, Nat.zero_le _, rfl, by simpa [osB] using ho5, hb5⟩
    case round =>
      obtain ⟨i, hi', rfl, hown, hbl⟩ := hrel
      have hBr : w.heap.size + 1 ≤ wr.heap.size := Nat.le_trans (by simp) hbl.size
      have hlen : ((((([(1 : Int)] ++ vn ss.toNat) ++ vn lo.toNat) ++ vn hi.toNat) ++ [d0, d1, d2]) ++ osB (([] : List Opn).take i)).length ≤ 100000 := by
        have := osB_len (([] : List Opn).take i) (fun o h => HOW.out o (List.mem_of_mem_take h))
        have h2 : (([] : List Opn).take i).length ≤ 256 := by rw [List.length_take]; have := n1; omega
        simp only [List.length_append, List.length_cons, List.length_nil] at *
        omega
      by_cases hlt : i < ([] : List Opn).length
      · exact absurd hlt (by simp)
      · obtain rfl : i = ([] : List Opn).length := by omega
        rw [List.take_length] at hown hlen
        obtain ⟨g, cp, rfl, hcp, hgl, hcells⟩ := hown.view (by simp)
        have hbyt : Byt ((((([(1 : Int)] ++ vn ss.toNat) ++ vn lo.toNat) ++ vn hi.toNat) ++ [d0, d1, d2]) ++ osB ([] : List Opn)) := HBY.out
        have hEr := HE.out wr hbl
        have Hck : Hid (Calls Tryz.prog 185 #[.slice (some ⟨g, 0, none⟩) ((((([(1 : Int)] ++ vn ss.toNat) ++ vn lo.toNat) ++ vn hi.toNat) ++ [d0, d1, d2]) ++ osB ([] : List Opn)).length cp] wr fun e w' => e = .returned (.agg #[.int .u8 (dig (strOfNums ((((([(1 : Int)] ++ vn ss.toNat) ++ vn lo.toNat) ++ vn hi.toNat) ++ [d0, d1, d2]) ++ osB ([] : List Opn))) 0), .int .u8 (dig (strOfNums ((((([(1 : Int)] ++ vn ss.toNat) ++ vn lo.toNat) ++ vn hi.toNat) ++ [d0, d1, d2]) ++ osB ([] : List Opn))) 1), .int .u8 (dig (strOfNums ((((([(1 : Int)] ++ vn ss.toNat) ++ vn lo.toNat) ++ vn hi.toNat) ++ [d0, d1, d2]) ++ osB ([] : List Opn))) 2)]) ∧ Below wr.heap.size wr w') := checkOf_any _ _ wr fun W hW => shaB g 0 cp _ hbyt W (Nat.lt_of_lt_of_le hEr.glt hW.size) (fun j hj => (hW.cell hEr.glt).trans (hEr.table j hj)) (fun i h => (hW.cell hgl).trans (hcells i h)) (Nat.lt_of_lt_of_le hgl hW.size) (by omega) hcp
        generalize hX : (((([(1 : Int)] ++ vn ss.toNat) ++ vn lo.toNat) ++ vn hi.toNat) ++ [d0, d1, d2]) ++ osB ([] : List Opn) = X at *
        have HX : Hid ((((([(1 : Int)] ++ vn ss.toNat) ++ vn lo.toNat) ++ vn hi.toNat) ++ [d0, d1, d2]) ++ osB ([] : List Opn) = X) := hX
        have HOW8 : Hid (OwnB wr (w.heap.size + 1) (.slice (some ⟨g, 0, none⟩) X.length cp) X) := hown
        clear hX hcells hown
        go_wp2_with (first
          | (go_at_call 185; (refine Hck.out.mono ?_; rintro e w8 ⟨rfl, hb8⟩; have ho8 := HOW8.out.keep hb8; have hb8' := hbl.trans (hb8.mono hBr); have hB8 : w.heap.size + 1 ≤ w8.heap.size := Nat.le_trans hBr hb8.size))
          | (at_builtin; (refine wpList_append_own_at _ rfl (.tmp 56) (.tmp 57) 59 rfl (w.heap.size + 1) 5 i0 (.int .u8 0) 1 1 Tryz.underlying59 hi0 hz0 hz1 hz2 rfl (by decide) (.slice (some ⟨g, 0, none⟩) X.length cp) X.length (u8s X) rfl (World.ownsRow.alloc ho8 _) ⟨w8.heap.size, 0, none⟩ 3 3 (u8s (chk (strOfNums X))) rfl rfl ?hn (u8s_one _) (by unfold maxLen; omega) (by omega) (by simp; omega) ?_; (case hn => exact chk_cells w8 _); intro v9 w9 hq9 hg9 _ hat9; have ho9 : OwnB w9 (w.heap.size + 1) v9 (X ++ chk (strOfNums X)) := (by unfold OwnB; rw [List.length_append, u8s_append]; exact hq9); have hb9 := hb8'.trans (((AppR.refl _ w8).alloc _).grow hg9 hat9 |>.below ho8 hB8))))
        go_ret
        have hw9 : Below w.heap.size w w9 := hz.trans (hb9.mono (Nat.le_succ _))
        have eX : frB ⟨1, ss, lo, hi, d0, d1, d2, ([] : List Opn)⟩ = X := by rw [← HX.out]; simp [frB, osB]
        exact ⟨⟨_, rfl, by unfold packL; rw [eX]; exact ho9.base (Nat.le_succ _)⟩, hw9⟩
  · skip
    obtain ⟨rfl, rfl, rfl⟩ := hd (by decide)
    clear c2 c3
    obtain rfl := n2 (by decide)
    have Hr : Hid (∀ W, Calls Tryz.prog 182 #[.int .i64 2] W fun e w' => e = .returned (.bool true) ∧ w' = W) := hasRange_any 2
    have Ho : Hid (∀ W, Calls Tryz.prog 183 #[.int .i64 2] W fun e w' => e = .returned (.bool false) ∧ w' = W) := hasOps_any 2
    have hzs : (w.alloc (.cells #[.int .i64 2, .int .u32 ss, .int .u64 lo, .int .u64 hi, .int .u8 0, .int .u8 0, .int .u8 0, .slice a 0 cap] 58)).heap.size = w.heap.size + 1 := by simp
    have x1 : IntKind.u64.wrap ss = ss := u64r _ (by omega)
    have s1 := (vn_size 9 ss.toNat (by omega)).2
    have s2 := (vn_size 9 lo.toNat (by omega)).2
    have s3 := (vn_size 9 hi.toNat (by omega)).2
    have HOW : Hid (∀ o ∈ ([] : List Opn), OpW o) := ho
    have HE : Hid (∀ W, Below (w.heap.size + 1) (w.alloc (.cells #[.int .i64 2, .int .u32 ss, .int .u64 lo, .int .u64 hi, .int .u8 0, .int .u8 0, .int .u8 0, .slice a 0 cap] 58)) W → Env W) := fun W hb => (hE.below hz).below (hzs ▸ hb)
    have HBY : Hid (Byt (((([(2 : Int)] ++ vn ss.toNat) ++ vn lo.toNat) ++ vn hi.toNat) ++ osB ([] : List Opn))) := by
      have e : ((([(2 : Int)] ++ vn ss.toNat) ++ vn lo.toNat) ++ vn hi.toNat) ++ osB ([] : List Opn) = frB ⟨2, ss, lo, hi, 0, 0, 0, []⟩ := by simp [frB, osB]
      rw [e]; exact hby
    have hB1 : w.heap.size + 1 ≤ (w.alloc (.cells #[.int .i64 2, .int .u32 ss, .int .u64 lo, .int .u64 hi, .int .u8 0, .int .u8 0, .int .u8 0, .slice a 0 cap] 58)).heap.size := by simp
    have hb1' : Below (w.heap.size + 1) (w.alloc (.cells #[.int .i64 2, .int .u32 ss, .int .u64 lo, .int .u64 hi, .int .u8 0, .int .u8 0, .int .u8 0, .slice a 0 cap] 58)) (w.alloc (.cells #[.int .i64 2, .int .u32 ss, .int .u64 lo, .int .u64 hi, .int .u8 0, .int .u8 0, .int .u8 0, .slice a 0 cap] 58)) := Below.refl _ _
    have y1' : ((w.alloc (.cells #[.int .i64 2, .int .u32 ss, .int .u64 lo, .int .u64 hi, .int .u8 0, .int .u8 0, .int .u8 0, .slice a 0 cap] 58)).alloc (.cells #[.int .u8 2] 5)).cell? ⟨w.heap.size, 1, none⟩ = some (.int .u32 ss) := (World.cell?_alloc_lt _ _ ⟨w.heap.size, 1, none⟩ (show w.heap.size < (w.alloc (.cells #[.int .i64 2, .int .u32 ss, .int .u64 lo, .int .u64 hi, .int .u8 0, .int .u8 0, .int .u8 0, .slice a 0 cap] 58)).heap.size from hB1)).trans ((cell_of_row _ _ _ _ _ _ (heap_alloc_new w _)).trans rfl)
    have HN1 : OwnB ((w.alloc (.cells #[.int .i64 2, .int .u32 ss, .int .u64 lo, .int .u64 hi, .int .u8 0, .int .u8 0, .int .u8 0, .slice a 0 cap] 58)).alloc (.cells #[.int .u8 2] 5)) (w.heap.size + 1) (.slice (some ⟨w.heap.size + 1, 0, none⟩) 1 1) [(2 : Int)] := by
      have h := own_new1 (w.alloc (.cells #[.int .i64 2, .int .u32 ss, .int .u64 lo, .int .u64 hi, .int .u8 0, .int .u8 0, .int .u8 0, .slice a 0 cap] 58)) (w.heap.size + 1) 2 hB1
      rw [hzs] at h
      exact h
    have hN1 : w.heap.size + 1 ≤ ((w.alloc (.cells #[.int .i64 2, .int .u32 ss, .int .u64 lo, .int .u64 hi, .int .u8 0, .int .u8 0, .int .u8 0, .slice a 0 cap] 58)).alloc (.cells #[.int .u8 2] 5)).heap.size := by simp
    have hb1'' : Below (w.heap.size + 1) (w.alloc (.cells #[.int .i64 2, .int .u32 ss, .int .u64 lo, .int .u64 hi, .int .u8 0, .int .u8 0, .int .u8 0, .slice a 0 cap] 58)) ((w.alloc (.cells #[.int .i64 2, .int .u32 ss, .int .u64 lo, .int .u64 hi, .int .u8 0, .int .u8 0, .int .u8 0, .slice a 0 cap] 58)).alloc (.cells #[.int .u8 2] 5)) := hb1'.alloc hB1 _
    go_enter Tryz.func107, Tryz.ntmps107
    go_wp2_with (first
      | (go_at_call 181; have hq := ho3; clear hq; refine (appVar_int hi a3 (by omega) (w.heap.size + 1) _ (([(2 : Int)] ++ vn ss.toNat) ++ vn lo.toNat) _ hB3 (by simp only [List.length_append, List.length_cons, List.length_nil]; omega) ho3).mono ?_; rintro e w4 ⟨v4, rfl, ho4, r4⟩; have hb4 : Below (w.heap.size + 1) (w.alloc (.cells #[.int .i64 2, .int .u32 ss, .int .u64 lo, .int .u64 hi, .int .u8 0, .int .u8 0, .int .u8 0, .slice a 0 cap] 58)) w4 := hb3.trans (r4.below ho3 hB3); have hB4 : w.heap.size + 1 ≤ w4.heap.size := Nat.le_trans (by simp) hb4.size; obtain ⟨t40, t41, t42, t43, t44, t45, t46, t47⟩ := fr8N (hzs ▸ hb4) rfl)
      | (go_at_call 181; have hq := ho2; clear hq; refine (appVar_int lo a2 (by omega) (w.heap.size + 1) _ ([(2 : Int)] ++ vn ss.toNat) _ hB2 (by simp only [List.length_append, List.length_cons, List.length_nil]; omega) ho2).mono ?_; rintro e w3 ⟨v3, rfl, ho3, r3⟩; have hb3 : Below (w.heap.size + 1) (w.alloc (.cells #[.int .i64 2, .int .u32 ss, .int .u64 lo, .int .u64 hi, .int .u8 0, .int .u8 0, .int .u8 0, .slice a 0 cap] 58)) w3 := hb2.trans (r3.below ho2 hB2); have hB3 : w.heap.size + 1 ≤ w3.heap.size := Nat.le_trans (by simp) hb3.size; obtain ⟨t30, t31, t32, t33, t34, t35, t36, t37⟩ := fr8N (hzs ▸ hb3) rfl)
      | (go_at_call 181; refine (appVar_int ss a1 (by omega) (w.heap.size + 1) _ [2] _ hN1 (by simp) HN1).mono ?_; rintro e w2 ⟨v2, rfl, ho2, r2⟩; have hb2 : Below (w.heap.size + 1) (w.alloc (.cells #[.int .i64 2, .int .u32 ss, .int .u64 lo, .int .u64 hi, .int .u8 0, .int .u8 0, .int .u8 0, .slice a 0 cap] 58)) w2 := hb1''.trans (r2.below HN1 hN1); have hB2 : w.heap.size + 1 ≤ w2.heap.size := Nat.le_trans (by simp) hb2.size; obtain ⟨t20, t21, t22, t23, t24, t25, t26, t27⟩ := fr8N (hzs ▸ hb2) rfl)
      | (go_at_call 182; refine (Hr.out _).mono ?_; rintro e wx ⟨rfl, hwx⟩; obtain rfl := hwx.symm)
      | (go_at_call 183; refine (Ho.out _).mono ?_; rintro e wx ⟨rfl, hwx⟩; obtain rfl := hwx.symm))
    go_loopw [3, 46] (fun vv iv wr => ∃ i : Nat, i ≤ ([] : List Opn).length ∧ iv = .int .i64 i ∧ OwnB wr (w.heap.size + 1) vv (((([(2 : Int)] ++ vn ss.toNat) ++ vn lo.toNat) ++ vn hi.toNat) ++ osB (([] : List Opn).take i)) ∧ Below (w.heap.size + 1) (w.alloc (.cells #[.int .i64 2, .int .u32 ss, .int .u64 lo, .int .u64 hi, .int .u8 0, .int .u8 0, .int .u8 0, .slice a 0 cap] 58)) wr) (fun _ iv _ => ([] : List Opn).length - (intOf iv).toNat)
    case atStart => exact ⟨0, Nat.zero_le _, rfl, by simpa [osB] using ho4, hb4⟩
    case round =>
      obtain ⟨i, hi', rfl, hown, hbl⟩ := hrel
      have hBr : w.heap.size + 1 ≤ wr.heap.size := Nat.le_trans (by simp) hbl.size
      have hlen : (((([(2 : Int)] ++ vn ss.toNat) ++ vn lo.toNat) ++ vn hi.toNat) ++ osB (([] : List Opn).take i)).length ≤ 100000 := by
        have := osB_len (([] : List Opn).take i) (fun o h => HOW.out o (List.mem_of_mem_take h))
        have h2 : (([] : List Opn).take i).length ≤ 256 := by rw [List.length_take]; have := n1; omega
        simp only [List.length_append, List.length_cons, List.length_nil] at *
        omega
      by_cases hlt : i < ([] : List Opn).length
      · exact absurd hlt (by simp)
      · obtain rfl : i = ([] : List Opn).length := by omega
        rw [List.take_length] at hown hlen
        obtain ⟨g, cp, rfl, hcp, hgl, hcells⟩ := hown.view (by simp)
        have hbyt : Byt (((([(2 : Int)] ++ vn ss.toNat) ++ vn lo.toNat) ++ vn hi.toNat) ++ osB ([] : List Opn)) := HBY.out
        have hEr := HE.out wr hbl
        have Hck : Hid (Calls Tryz.prog 185 #[.slice (some ⟨g, 0, none⟩) (((([(2 : Int)] ++ vn ss.toNat) ++ vn lo.toNat) ++ vn hi.toNat) ++ osB ([] : List Opn)).length cp] wr fun e w' => e = .returned (.agg #[.int .u8 (dig (strOfNums (((([(2 : Int)] ++ vn ss.toNat) ++ vn lo.toNat) ++ vn hi.toNat) ++ osB ([] : List Opn))) 0), .int .u8 (dig (strOfNums (((([(2 : Int)] ++ vn ss.toNat) ++ vn lo.toNat) ++ vn hi.toNat) ++ osB ([] : List Opn))) 1), .int .u8 (dig (strOfNums (((([(2 : Int)] ++ vn ss.toNat) ++ vn lo.toNat) ++ vn hi.toNat) ++ osB ([] : List Opn))) 2)]) ∧ Below wr.heap.size wr w') := checkOf_any _ _ wr fun W hW => shaB g 0 cp _ hbyt W (Nat.lt_of_lt_of_le hEr.glt hW.size) (fun j hj => (hW.cell hEr.glt).trans (hEr.table j hj)) (fun i h => (hW.cell hgl).trans (hcells i h)) (Nat.lt_of_lt_of_le hgl hW.size) (by omega) hcp
        generalize hX : ((([(2 : Int)] ++ vn ss.toNat) ++ vn lo.toNat) ++ vn hi.toNat) ++ osB ([] : List Opn) = X at *
        have HX : Hid (((([(2 : Int)] ++ vn ss.toNat) ++ vn lo.toNat) ++ vn hi.toNat) ++ osB ([] : List Opn) = X) := hX
        have HOW8 : Hid (OwnB wr (w.heap.size + 1) (.slice (some ⟨g, 0, none⟩) X.length cp) X) := hown
        clear hX hcells hown
        go_wp2_with (first
          | (go_at_call 185; (refine Hck.out.mono ?_; rintro e w8 ⟨rfl, hb8⟩; have ho8 := HOW8.out.keep hb8; have hb8' := hbl.trans (hb8.mono hBr); have hB8 : w.heap.size + 1 ≤ w8.heap.size := Nat.le_trans hBr hb8.size))
          | (at_builtin; (refine wpList_append_own_at _ rfl (.tmp 56) (.tmp 57) 59 rfl (w.heap.size + 1) 5 i0 (.int .u8 0) 1 1 Tryz.underlying59 hi0 hz0 hz1 hz2 rfl (by decide) (.slice (some ⟨g, 0, none⟩) X.length cp) X.length (u8s X) rfl (World.ownsRow.alloc ho8 _) ⟨w8.heap.size, 0, none⟩ 3 3 (u8s (chk (strOfNums X))) rfl rfl ?hn (u8s_one _) (by unfold maxLen; omega) (by omega) (by simp; omega) ?_; (case hn => exact chk_cells w8 _); intro v9 w9 hq9 hg9 _ hat9; have ho9 : OwnB w9 (w.heap.size + 1) v9 (X ++ chk (strOfNums X)) := (by unfold OwnB; rw [List.length_append, u8s_append]; exact hq9); have hb9 := hb8'.trans (((AppR.refl _ w8).alloc _).grow hg9 hat9 |>.below ho8 hB8))))
        go_ret
        have hw9 : Below w.heap.size w w9 := hz.trans (hb9.mono (Nat.le_succ _))
        have eX : frB ⟨2, ss, lo, hi, 0, 0, 0, ([] : List Opn)⟩ = X := by rw [← HX.out]; simp [frB, osB]
        exact ⟨⟨_, rfl, by unfold packL; rw [eX]; exact ho9.base (Nat.le_succ _)⟩, hw9⟩
  · skip
    obtain ⟨rfl, rfl, rfl⟩ := hd (by decide)
    clear c2 c3
    clear n2
    have Hr : Hid (∀ W, Calls Tryz.prog 182 #[.int .i64 3] W fun e w' => e = .returned (.bool true) ∧ w' = W) := hasRange_any 3
    have Ho : Hid (∀ W, Calls Tryz.prog 183 #[.int .i64 3] W fun e w' => e = .returned (.bool true) ∧ w' = W) := hasOps_any 3
    have hzs : (w.alloc (.cells #[.int .i64 3, .int .u32 ss, .int .u64 lo, .int .u64 hi, .int .u8 0, .int .u8 0, .int .u8 0, .slice a os.length cap] 58)).heap.size = w.heap.size + 1 := by simp
    have x1 : IntKind.u64.wrap ss = ss := u64r _ (by omega)
    have s1 := (vn_size 9 ss.toNat (by omega)).2
    have s2 := (vn_size 9 lo.toNat (by omega)).2
    have s3 := (vn_size 9 hi.toNat (by omega)).2
    have HOW : Hid (∀ o ∈ os, OpW o) := ho
    have HE : Hid (∀ W, Below (w.heap.size + 1) (w.alloc (.cells #[.int .i64 3, .int .u32 ss, .int .u64 lo, .int .u64 hi, .int .u8 0, .int .u8 0, .int .u8 0, .slice a os.length cap] 58)) W → Env W) := fun W hb => (hE.below hz).below (hzs ▸ hb)
    have HBY : Hid (Byt ((((([(3 : Int)] ++ vn ss.toNat) ++ vn lo.toNat) ++ vn hi.toNat) ++ [(os.length : Int)]) ++ osB os)) := by
      have e : (((([(3 : Int)] ++ vn ss.toNat) ++ vn lo.toNat) ++ vn hi.toNat) ++ [(os.length : Int)]) ++ osB os = frB ⟨3, ss, lo, hi, 0, 0, 0, os⟩ := by simp [frB]
      rw [e]; exact hby
    have hB1 : w.heap.size + 1 ≤ (w.alloc (.cells #[.int .i64 3, .int .u32 ss, .int .u64 lo, .int .u64 hi, .int .u8 0, .int .u8 0, .int .u8 0, .slice a os.length cap] 58)).heap.size := by simp
    have hb1' : Below (w.heap.size + 1) (w.alloc (.cells #[.int .i64 3, .int .u32 ss, .int .u64 lo, .int .u64 hi, .int .u8 0, .int .u8 0, .int .u8 0, .slice a os.length cap] 58)) (w.alloc (.cells #[.int .i64 3, .int .u32 ss, .int .u64 lo, .int .u64 hi, .int .u8 0, .int .u8 0, .int .u8 0, .slice a os.length cap] 58)) := Below.refl _ _
    have y1' : ((w.alloc (.cells #[.int .i64 3, .int .u32 ss, .int .u64 lo, .int .u64 hi, .int .u8 0, .int .u8 0, .int .u8 0, .slice a os.length cap] 58)).alloc (.cells #[.int .u8 3] 5)).cell? ⟨w.heap.size, 1, none⟩ = some (.int .u32 ss) := (World.cell?_alloc_lt _ _ ⟨w.heap.size, 1, none⟩ (show w.heap.size < (w.alloc (.cells #[.int .i64 3, .int .u32 ss, .int .u64 lo, .int .u64 hi, .int .u8 0, .int .u8 0, .int .u8 0, .slice a os.length cap] 58)).heap.size from hB1)).trans ((cell_of_row _ _ _ _ _ _ (heap_alloc_new w _)).trans rfl)
    have HN1 : OwnB ((w.alloc (.cells #[.int .i64 3, .int .u32 ss, .int .u64 lo, .int .u64 hi, .int .u8 0, .int .u8 0, .int .u8 0, .slice a os.length cap] 58)).alloc (.cells #[.int .u8 3] 5)) (w.heap.size + 1) (.slice (some ⟨w.heap.size + 1, 0, none⟩) 1 1) [(3 : Int)] := by
      have h := own_new1 (w.alloc (.cells #[.int .i64 3, .int .u32 ss, .int .u64 lo, .int .u64 hi, .int .u8 0, .int .u8 0, .int .u8 0, .slice a os.length cap] 58)) (w.heap.size + 1) 3 hB1
      rw [hzs] at h
      exact h
    have hN1 : w.heap.size + 1 ≤ ((w.alloc (.cells #[.int .i64 3, .int .u32 ss, .int .u64 lo, .int .u64 hi, .int .u8 0, .int .u8 0, .int .u8 0, .slice a os.length cap] 58)).alloc (.cells #[.int .u8 3] 5)).heap.size := by simp
    have hb1'' : Below (w.heap.size + 1) (w.alloc (.cells #[.int .i64 3, .int .u32 ss, .int .u64 lo, .int .u64 hi, .int .u8 0, .int .u8 0, .int .u8 0, .slice a os.length cap] 58)) ((w.alloc (.cells #[.int .i64 3, .int .u32 ss, .int .u64 lo, .int .u64 hi, .int .u8 0, .int .u8 0, .int .u8 0, .slice a os.length cap] 58)).alloc (.cells #[.int .u8 3] 5)) := hb1'.alloc hB1 _
    go_enter Tryz.func107, Tryz.ntmps107
    go_wp2_with (first
      | (go_at_call 181; have hq := ho3; clear hq; refine (appVar_int hi a3 (by omega) (w.heap.size + 1) _ (([(3 : Int)] ++ vn ss.toNat) ++ vn lo.toNat) _ hB3 (by simp only [List.length_append, List.length_cons, List.length_nil]; omega) ho3).mono ?_; rintro e w4 ⟨v4, rfl, ho4, r4⟩; have hb4 : Below (w.heap.size + 1) (w.alloc (.cells #[.int .i64 3, .int .u32 ss, .int .u64 lo, .int .u64 hi, .int .u8 0, .int .u8 0, .int .u8 0, .slice a os.length cap] 58)) w4 := hb3.trans (r4.below ho3 hB3); have hB4 : w.heap.size + 1 ≤ w4.heap.size := Nat.le_trans (by simp) hb4.size; obtain ⟨t40, t41, t42, t43, t44, t45, t46, t47⟩ := fr8N (hzs ▸ hb4) rfl)
      | (go_at_call 181; have hq := ho2; clear hq; refine (appVar_int lo a2 (by omega) (w.heap.size + 1) _ ([(3 : Int)] ++ vn ss.toNat) _ hB2 (by simp only [List.length_append, List.length_cons, List.length_nil]; omega) ho2).mono ?_; rintro e w3 ⟨v3, rfl, ho3, r3⟩; have hb3 : Below (w.heap.size + 1) (w.alloc (.cells #[.int .i64 3, .int .u32 ss, .int .u64 lo, .int .u64 hi, .int .u8 0, .int .u8 0, .int .u8 0, .slice a os.length cap] 58)) w3 := hb2.trans (r3.below ho2 hB2); have hB3 : w.heap.size + 1 ≤ w3.heap.size := Nat.le_trans (by simp) hb3.size; obtain ⟨t30, t31, t32, t33, t34, t35, t36, t37⟩ := fr8N (hzs ▸ hb3) rfl)
      | (go_at_call 181; refine (appVar_int ss a1 (by omega) (w.heap.size + 1) _ [3] _ hN1 (by simp) HN1).mono ?_; rintro e w2 ⟨v2, rfl, ho2, r2⟩; have hb2 : Below (w.heap.size + 1) (w.alloc (.cells #[.int .i64 3, .int .u32 ss, .int .u64 lo, .int .u64 hi, .int .u8 0, .int .u8 0, .int .u8 0, .slice a os.length cap] 58)) w2 := hb1''.trans (r2.below HN1 hN1); have hB2 : w.heap.size + 1 ≤ w2.heap.size := Nat.le_trans (by simp) hb2.size; obtain ⟨t20, t21, t22, t23, t24, t25, t26, t27⟩ := fr8N (hzs ▸ hb2) rfl)
      | (go_at_call 182; refine (Hr.out _).mono ?_; rintro e wx ⟨rfl, hwx⟩; obtain rfl := hwx.symm)
      | (go_at_call 183; refine (Ho.out _).mono ?_; rintro e wx ⟨rfl, hwx⟩; obtain rfl := hwx.symm)
      | (at_builtin; refine wpList_append_own_at _ rfl (.tmp 36) (.tmp 41) 59 rfl (w.heap.size + 1) 5 i0 (.int .u8 0) 1 1 Tryz.underlying59 hi0 hz0 hz1 hz2 rfl (by decide) v4 ((([(3 : Int)] ++ vn ss.toNat) ++ vn lo.toNat) ++ vn hi.toNat).length (u8s ((([(3 : Int)] ++ vn ss.toNat) ++ vn lo.toNat) ++ vn hi.toNat)) rfl (ho4.alloc _) ⟨w4.heap.size, 0, none⟩ 1 1 (u8s [(os.length : Int)]) rfl rfl ?hn (u8s_one _) (by unfold maxLen; simp only [List.length_append, List.length_cons, List.length_nil]; omega) (by simp only [List.length_append, List.length_cons, List.length_nil]; omega) (by simp; omega) ?_; (case hn => exact cell_one_new _ _ _); intro v6 w6 hq6 hg6 _ hat6; have ho6 : OwnB w6 (w.heap.size + 1) v6 (((([(3 : Int)] ++ vn ss.toNat) ++ vn lo.toNat) ++ vn hi.toNat) ++ [(os.length : Int)]) := (by unfold OwnB; rw [List.length_append, u8s_append]; exact hq6); have hb6 : Below (w.heap.size + 1) (w.alloc (.cells #[.int .i64 3, .int .u32 ss, .int .u64 lo, .int .u64 hi, .int .u8 0, .int .u8 0, .int .u8 0, .slice a os.length cap] 58)) w6 := hb4.trans (((AppR.refl v4 w4).alloc _).grow hg6 hat6 |>.below ho4 hB4); have hB6 : w.heap.size + 1 ≤ w6.heap.size := Nat.le_trans (by simp) hb6.size; obtain ⟨t60, t61, t62, t63, t64, t65, t66, t67⟩ := fr8N (hzs ▸ hb6) rfl))
    go_loopw [3, 46] (fun vv iv wr => ∃ i : Nat, i ≤ os.length ∧ iv = .int .i64 i ∧ OwnB wr (w.heap.size + 1) vv ((((([(3 : Int)] ++ vn ss.toNat) ++ vn lo.toNat) ++ vn hi.toNat) ++ [(os.length : Int)]) ++ osB (os.take i)) ∧ Below (w.heap.size + 1) (w.alloc (.cells #[.int .i64 3, .int .u32 ss, .int .u64 lo, .int .u64 hi, .int .u8 0, .int .u8 0, .int .u8 0, .slice a os.length cap] 58)) wr) (fun _ iv _ => os.length - (intOf iv).toNat)
    case atStart => exact ⟨0, Nat.zero_le _, rfl, by simpa [osB] using ho6, hb6⟩
    case round =>
      obtain ⟨i, hi', rfl, hown, hbl⟩ := hrel
      have hBr : w.heap.size + 1 ≤ wr.heap.size := Nat.le_trans (by simp) hbl.size
      have hlen : ((((([(3 : Int)] ++ vn ss.toNat) ++ vn lo.toNat) ++ vn hi.toNat) ++ [(os.length : Int)]) ++ osB (os.take i)).length ≤ 100000 := by
        have := osB_len (os.take i) (fun o h => HOW.out o (List.mem_of_mem_take h))
        have h2 : (os.take i).length ≤ 256 := by rw [List.length_take]; have := n1; omega
        simp only [List.length_append, List.length_cons, List.length_nil] at *
        omega
      by_cases hlt : i < os.length
      · have li : (i : Int) < (os.length : Int) := by omega
        rcases hO with h0 | ⟨g, off, rfl, hO⟩
        · subst h0; cases hlt
        have hBw : Below w.heap.size w wr := hz.trans (hbl.mono (Nat.le_succ _))
        obtain ⟨c0, c1, c2, c3, c4, c5⟩ := (hO.below hBw).cells hlt
        have hwi := ho os[i] (List.getElem_mem hlt)
        have hki := ok_kinds (hop os[i] (List.getElem_mem hlt))
        have htk := osB_take os hlt
        have HWi : Hid (OpW os[i] ∧ (os[i].kd = 1 ∨ os[i].kd = 2)) := ⟨hwi, hki⟩
        have hlen2 : ((((([(3 : Int)] ++ vn ss.toNat) ++ vn lo.toNat) ++ vn hi.toNat) ++ [(os.length : Int)]) ++ osB (os.take i)).length + 100 ≤ 140737488355328 := by omega
        clear ho hop hO hwi hki
        go_wp2_with (go_at_call 184; (refine (appOp_any os[i] HWi.out.1 HWi.out.2 (w.heap.size + 1) _ _ _ (by simp; omega) hlen2 (hown.alloc _)).mono ?_; rintro e w7 ⟨v7, rfl, ho7, r7⟩; have hb7 := (hbl.alloc hBr _).trans (r7.below (hown.alloc _) (by simp; omega))))
        go_roundw
        case rel => exact ⟨i + 1, hlt, by go_num, by rw [htk, ← List.append_assoc]; exact ho7, hb7⟩
        case measure => simp [intOf]; omega
      · obtain rfl : i = os.length := by omega
        rw [List.take_length] at hown hlen
        obtain ⟨g, cp, rfl, hcp, hgl, hcells⟩ := hown.view (by simp)
        have hbyt : Byt ((((([(3 : Int)] ++ vn ss.toNat) ++ vn lo.toNat) ++ vn hi.toNat) ++ [(os.length : Int)]) ++ osB os) := HBY.out
        have hEr := HE.out wr hbl
        have Hck : Hid (Calls Tryz.prog 185 #[.slice (some ⟨g, 0, none⟩) ((((([(3 : Int)] ++ vn ss.toNat) ++ vn lo.toNat) ++ vn hi.toNat) ++ [(os.length : Int)]) ++ osB os).length cp] wr fun e w' => e = .returned (.agg #[.int .u8 (dig (strOfNums ((((([(3 : Int)] ++ vn ss.toNat) ++ vn lo.toNat) ++ vn hi.toNat) ++ [(os.length : Int)]) ++ osB os)) 0), .int .u8 (dig (strOfNums ((((([(3 : Int)] ++ vn ss.toNat) ++ vn lo.toNat) ++ vn hi.toNat) ++ [(os.length : Int)]) ++ osB os)) 1), .int .u8 (dig (strOfNums ((((([(3 : Int)] ++ vn ss.toNat) ++ vn lo.toNat) ++ vn hi.toNat) ++ [(os.length : Int)]) ++ osB os)) 2)]) ∧ Below wr.heap.size wr w') := checkOf_any _ _ wr fun W hW => shaB g 0 cp _ hbyt W (Nat.lt_of_lt_of_le hEr.glt hW.size) (fun j hj => (hW.cell hEr.glt).trans (hEr.table j hj)) (fun i h => (hW.cell hgl).trans (hcells i h)) (Nat.lt_of_lt_of_le hgl hW.size) (by omega) hcp
        generalize hX : (((([(3 : Int)] ++ vn ss.toNat) ++ vn lo.toNat) ++ vn hi.toNat) ++ [(os.length : Int)]) ++ osB os = X at *
        have HX : Hid ((((([(3 : Int)] ++ vn ss.toNat) ++ vn lo.toNat) ++ vn hi.toNat) ++ [(os.length : Int)]) ++ osB os = X) := hX
        have HOW8 : Hid (OwnB wr (w.heap.size + 1) (.slice (some ⟨g, 0, none⟩) X.length cp) X) := hown
        clear hX hcells hown
        go_wp2_with (first
          | (go_at_call 185; (refine Hck.out.mono ?_; rintro e w8 ⟨rfl, hb8⟩; have ho8 := HOW8.out.keep hb8; have hb8' := hbl.trans (hb8.mono hBr); have hB8 : w.heap.size + 1 ≤ w8.heap.size := Nat.le_trans hBr hb8.size))
          | (at_builtin; (refine wpList_append_own_at _ rfl (.tmp 56) (.tmp 57) 59 rfl (w.heap.size + 1) 5 i0 (.int .u8 0) 1 1 Tryz.underlying59 hi0 hz0 hz1 hz2 rfl (by decide) (.slice (some ⟨g, 0, none⟩) X.length cp) X.length (u8s X) rfl (World.ownsRow.alloc ho8 _) ⟨w8.heap.size, 0, none⟩ 3 3 (u8s (chk (strOfNums X))) rfl rfl ?hn (u8s_one _) (by unfold maxLen; omega) (by omega) (by simp; omega) ?_; (case hn => exact chk_cells w8 _); intro v9 w9 hq9 hg9 _ hat9; have ho9 : OwnB w9 (w.heap.size + 1) v9 (X ++ chk (strOfNums X)) := (by unfold OwnB; rw [List.length_append, u8s_append]; exact hq9); have hb9 := hb8'.trans (((AppR.refl _ w8).alloc _).grow hg9 hat9 |>.below ho8 hB8))))
        go_ret
        have hw9 : Below w.heap.size w w9 := hz.trans (hb9.mono (Nat.le_succ _))
        have eX : frB ⟨3, ss, lo, hi, 0, 0, 0, os⟩ = X := by rw [← HX.out]; simp [frB]
        exact ⟨⟨_, rfl, by unfold packL; rw [eX]; exact ho9.base (Nat.le_succ _)⟩, hw9⟩
  · skip
    obtain ⟨rfl, rfl, rfl⟩ := hd (by decide)
    clear c2 c3
    clear n2
    have Hr : Hid (∀ W, Calls Tryz.prog 182 #[.int .i64 4] W fun e w' => e = .returned (.bool true) ∧ w' = W) := hasRange_any 4
    have Ho : Hid (∀ W, Calls Tryz.prog 183 #[.int .i64 4] W fun e w' => e = .returned (.bool true) ∧ w' = W) := hasOps_any 4
    have hzs : (w.alloc (.cells #[.int .i64 4, .int .u32 ss, .int .u64 lo, .int .u64 hi, .int .u8 0, .int .u8 0, .int .u8 0, .slice a os.length cap] 58)).heap.size = w.heap.size + 1 := by simp
    have x1 : IntKind.u64.wrap ss = ss := u64r _ (by omega)
    have s1 := (vn_size 9 ss.toNat (by omega)).2
    have s2 := (vn_size 9 lo.toNat (by omega)).2
    have s3 := (vn_size 9 hi.toNat (by omega)).2
    have HOW : Hid (∀ o ∈ os, OpW o) := ho
    have HE : Hid (∀ W, Below (w.heap.size + 1) (w.alloc (.cells #[.int .i64 4, .int .u32 ss, .int .u64 lo, .int .u64 hi, .int .u8 0, .int .u8 0, .int .u8 0, .slice a os.length cap] 58)) W → Env W) := fun W hb => (hE.below hz).below (hzs ▸ hb)
    have HBY : Hid (Byt ((((([(4 : Int)] ++ vn ss.toNat) ++ vn lo.toNat) ++ vn hi.toNat) ++ [(os.length : Int)]) ++ osB os)) := by
      have e : (((([(4 : Int)] ++ vn ss.toNat) ++ vn lo.toNat) ++ vn hi.toNat) ++ [(os.length : Int)]) ++ osB os = frB ⟨4, ss, lo, hi, 0, 0, 0, os⟩ := by simp [frB]
      rw [e]; exact hby
    have hB1 : w.heap.size + 1 ≤ (w.alloc (.cells #[.int .i64 4, .int .u32 ss, .int .u64 lo, .int .u64 hi, .int .u8 0, .int .u8 0, .int .u8 0, .slice a os.length cap] 58)).heap.size := by simp
    have hb1' : Below (w.heap.size + 1) (w.alloc (.cells #[.int .i64 4, .int .u32 ss, .int .u64 lo, .int .u64 hi, .int .u8 0, .int .u8 0, .int .u8 0, .slice a os.length cap] 58)) (w.alloc (.cells #[.int .i64 4, .int .u32 ss, .int .u64 lo, .int .u64 hi, .int .u8 0, .int .u8 0, .int .u8 0, .slice a os.length cap] 58)) := Below.refl _ _
    have y1' : ((w.alloc (.cells #[.int .i64 4, .int .u32 ss, .int .u64 lo, .int .u64 hi, .int .u8 0, .int .u8 0, .int .u8 0, .slice a os.length cap] 58)).alloc (.cells #[.int .u8 4] 5)).cell? ⟨w.heap.size, 1, none⟩ = some (.int .u32 ss) := (World.cell?_alloc_lt _ _ ⟨w.heap.size, 1, none⟩ (show w.heap.size < (w.alloc (.cells #[.int .i64 4, .int .u32 ss, .int .u64 lo, .int .u64 hi, .int .u8 0, .int .u8 0, .int .u8 0, .slice a os.length cap] 58)).heap.size from hB1)).trans ((cell_of_row _ _ _ _ _ _ (heap_alloc_new w _)).trans rfl)
    have HN1 : OwnB ((w.alloc (.cells #[.int .i64 4, .int .u32 ss, .int .u64 lo, .int .u64 hi, .int .u8 0, .int .u8 0, .int .u8 0, .slice a os.length cap] 58)).alloc (.cells #[.int .u8 4] 5)) (w.heap.size + 1) (.slice (some ⟨w.heap.size + 1, 0, none⟩) 1 1) [(4 : Int)] := by
      have h := own_new1 (w.alloc (.cells #[.int .i64 4, .int .u32 ss, .int .u64 lo, .int .u64 hi, .int .u8 0, .int .u8 0, .int .u8 0, .slice a os.length cap] 58)) (w.heap.size + 1) 4 hB1
      rw [hzs] at h
      exact h
    have hN1 : w.heap.size + 1 ≤ ((w.alloc (.cells #[.int .i64 4, .int .u32 ss, .int .u64 lo, .int .u64 hi, .int .u8 0, .int .u8 0, .int .u8 0, .slice a os.length cap] 58)).alloc (.cells #[.int .u8 4] 5)).heap.size := by simp
    have hb1'' : Below (w.heap.size + 1) (w.alloc (.cells #[.int .i64 4, .int .u32 ss, .int .u64 lo, .int .u64 hi, .int .u8 0, .int .u8 0, .int .u8 0, .slice a os.length cap] 58)) ((w.alloc (.cells #[.int .i64 4, .int .u32 ss, .int .u64 lo, .int .u64 hi, .int .u8 0, .int .u8 0, .int .u8 0, .slice a os.length cap] 58)).alloc (.cells #[.int .u8 4] 5)) := hb1'.alloc hB1 _
    go_enter Tryz.func107, Tryz.ntmps107
    go_wp2_with (first
      | (go_at_call 181; have hq := ho3; clear hq; refine (appVar_int hi a3 (by omega) (w.heap.size + 1) _ (([(4 : Int)] ++ vn ss.toNat) ++ vn lo.toNat) _ hB3 (by simp only [List.length_append, List.length_cons, List.length_nil]; omega) ho3).mono ?_; rintro e w4 ⟨v4, rfl, ho4, r4⟩; have hb4 : Below (w.heap.size + 1) (w.alloc (.cells #[.int .i64 4, .int .u32 ss, .int .u64 lo, .int .u64 hi, .int .u8 0, .int .u8 0, .int .u8 0, .slice a os.length cap] 58)) w4 := hb3.trans (r4.below ho3 hB3); have hB4 : w.heap.size + 1 ≤ w4.heap.size := Nat.le_trans (by simp) hb4.size; obtain ⟨t40, t41, t42, t43, t44, t45, t46, t47⟩ := fr8N (hzs ▸ hb4) rfl)
      | (go_at_call 181; have hq := ho2; clear hq; refine (appVar_int lo a2 (by omega) (w.heap.size + 1) _ ([(4 : Int)] ++ vn ss.toNat) _ hB2 (by simp only [List.length_append, List.length_cons, List.length_nil]; omega) ho2).mono ?_; rintro e w3 ⟨v3, rfl, ho3, r3⟩; have hb3 : Below (w.heap.size + 1) (w.alloc (.cells #[.int .i64 4, .int .u32 ss, .int .u64 lo, .int .u64 hi, .int .u8 0, .int .u8 0, .int .u8 0, .slice a os.length cap] 58)) w3 := hb2.trans (r3.below ho2 hB2); have hB3 : w.heap.size + 1 ≤ w3.heap.size := Nat.le_trans (by simp) hb3.size; obtain ⟨t30, t31, t32, t33, t34, t35, t36, t37⟩ := fr8N (hzs ▸ hb3) rfl)
      | (go_at_call 181; refine (appVar_int ss a1 (by omega) (w.heap.size + 1) _ [4] _ hN1 (by simp) HN1).mono ?_; rintro e w2 ⟨v2, rfl, ho2, r2⟩; have hb2 : Below (w.heap.size + 1) (w.alloc (.cells #[.int .i64 4, .int .u32 ss, .int .u64 lo, .int .u64 hi, .int .u8 0, .int .u8 0, .int .u8 0, .slice a os.length cap] 58)) w2 := hb1''.trans (r2.below HN1 hN1); have hB2 : w.heap.size + 1 ≤ w2.heap.size := Nat.le_trans (by simp) hb2.size; obtain ⟨t20, t21, t22, t23, t24, t25, t26, t27⟩ := fr8N (hzs ▸ hb2) rfl)
      | (go_at_call 182; refine (Hr.out _).mono ?_; rintro e wx ⟨rfl, hwx⟩; obtain rfl := hwx.symm)
      | (go_at_call 183; refine (Ho.out _).mono ?_; rintro e wx ⟨rfl, hwx⟩; obtain rfl := hwx.symm)
      | (at_builtin; refine wpList_append_own_at _ rfl (.tmp 36) (.tmp 41) 59 rfl (w.heap.size + 1) 5 i0 (.int .u8 0) 1 1 Tryz.underlying59 hi0 hz0 hz1 hz2 rfl (by decide) v4 ((([(4 : Int)] ++ vn ss.toNat) ++ vn lo.toNat) ++ vn hi.toNat).length (u8s ((([(4 : Int)] ++ vn ss.toNat) ++ vn lo.toNat) ++ vn hi.toNat)) rfl (ho4.alloc _) ⟨w4.heap.size, 0, none⟩ 1 1 (u8s [(os.length : Int)]) rfl rfl ?hn (u8s_one _) (by unfold maxLen; simp only [List.length_append, List.length_cons, List.length_nil]; omega) (by simp only [List.length_append, List.length_cons, List.length_nil]; omega) (by simp; omega) ?_; (case hn => exact cell_one_new _ _ _); intro v6 w6 hq6 hg6 _ hat6; have ho6 : OwnB w6 (w.heap.size + 1) v6 (((([(4 : Int)] ++ vn ss.toNat) ++ vn lo.toNat) ++ vn hi.toNat) ++ [(os.length : Int)]) := (by unfold OwnB; rw [List.length_append, u8s_append]; exact hq6); have hb6 : Below (w.heap.size + 1) (w.alloc (.cells #[.int .i64 4, .int .u32 ss, .int .u64 lo, .int .u64 hi, .int .u8 0, .int .u8 0, .int .u8 0, .slice a os.length cap] 58)) w6 := hb4.trans (((AppR.refl v4 w4).alloc _).grow hg6 hat6 |>.below ho4 hB4); have hB6 : w.heap.size + 1 ≤ w6.heap.size := Nat.le_trans (by simp) hb6.size; obtain ⟨t60, t61, t62, t63, t64, t65, t66, t67⟩ := fr8N (hzs ▸ hb6) rfl))
    go_loopw [3, 46] (fun vv iv wr => ∃ i : Nat, i ≤ os.length ∧ iv = .int .i64 i ∧ OwnB wr (w.heap.size + 1) vv ((((([(4 : Int)] ++ vn ss.toNat) ++ vn lo.toNat) ++ vn hi.toNat) ++ [(os.length : Int)]) ++ osB (os.take i)) ∧ Below (w.heap.size + 1) (w.alloc (.cells #[.int .i64 4, .int .u32 ss, .int .u64 lo, .int .u64 hi, .int .u8 0, .int .u8 0, .int .u8 0, .slice a os.length cap] 58)) wr) (fun _ iv _ => os.length - (intOf iv).toNat)
    case atStart => exact ⟨0, Nat.zero_le _, rfl, by simpa [osB] using ho6, hb6⟩
    case round =>
      obtain ⟨i, hi', rfl, hown, hbl⟩ := hrel
      have hBr : w.heap.size + 1 ≤ wr.heap.size := Nat.le_trans (by simp) hbl.size
      have hlen : ((((([(4 : Int)] ++ vn ss.toNat) ++ vn lo.toNat) ++ vn hi.toNat) ++ [(os.length : Int)]) ++ osB (os.take i)).length ≤ 100000 := by
        have := osB_len (os.take i) (fun o h => HOW.out o (List.mem_of_mem_take h))
        have h2 : (os.take i).length ≤ 256 := by rw [List.length_take]; have := n1; omega
        simp only [List.length_append, List.length_cons, List.length_nil] at *
        omega
      by_cases hlt : i < os.length
      · have li : (i : Int) < (os.length : Int) := by omega
        rcases hO with h0 | ⟨g, off, rfl, hO⟩
        · subst h0; cases hlt
        have hBw : Below w.heap.size w wr := hz.trans (hbl.mono (Nat.le_succ _))
        obtain ⟨c0, c1, c2, c3, c4, c5⟩ := (hO.below hBw).cells hlt
        have hwi := ho os[i] (List.getElem_mem hlt)
        have hki := ok_kinds (hop os[i] (List.getElem_mem hlt))
        have htk := osB_take os hlt
        have HWi : Hid (OpW os[i] ∧ (os[i].kd = 1 ∨ os[i].kd = 2)) := ⟨hwi, hki⟩
        have hlen2 : ((((([(4 : Int)] ++ vn ss.toNat) ++ vn lo.toNat) ++ vn hi.toNat) ++ [(os.length : Int)]) ++ osB (os.take i)).length + 100 ≤ 140737488355328 := by omega
        clear ho hop hO hwi hki
        go_wp2_with (go_at_call 184; (refine (appOp_any os[i] HWi.out.1 HWi.out.2 (w.heap.size + 1) _ _ _ (by simp; omega) hlen2 (hown.alloc _)).mono ?_; rintro e w7 ⟨v7, rfl, ho7, r7⟩; have hb7 := (hbl.alloc hBr _).trans (r7.below (hown.alloc _) (by simp; omega))))
        go_roundw
        case rel => exact ⟨i + 1, hlt, by go_num, by rw [htk, ← List.append_assoc]; exact ho7, hb7⟩
        case measure => simp [intOf]; omega
      · obtain rfl : i = os.length := by omega
        rw [List.take_length] at hown hlen
        obtain ⟨g, cp, rfl, hcp, hgl, hcells⟩ := hown.view (by simp)
        have hbyt : Byt ((((([(4 : Int)] ++ vn ss.toNat) ++ vn lo.toNat) ++ vn hi.toNat) ++ [(os.length : Int)]) ++ osB os) := HBY.out
        have hEr := HE.out wr hbl
        have Hck : Hid (Calls Tryz.prog 185 #[.slice (some ⟨g, 0, none⟩) ((((([(4 : Int)] ++ vn ss.toNat) ++ vn lo.toNat) ++ vn hi.toNat) ++ [(os.length : Int)]) ++ osB os).length cp] wr fun e w' => e = .returned (.agg #[.int .u8 (dig (strOfNums ((((([(4 : Int)] ++ vn ss.toNat) ++ vn lo.toNat) ++ vn hi.toNat) ++ [(os.length : Int)]) ++ osB os)) 0), .int .u8 (dig (strOfNums ((((([(4 : Int)] ++ vn ss.toNat) ++ vn lo.toNat) ++ vn hi.toNat) ++ [(os.length : Int)]) ++ osB os)) 1), .int .u8 (dig (strOfNums ((((([(4 : Int)] ++ vn ss.toNat) ++ vn lo.toNat) ++ vn hi.toNat) ++ [(os.length : Int)]) ++ osB os)) 2)]) ∧ Below wr.heap.size wr w') := checkOf_any _ _ wr fun W hW => shaB g 0 cp _ hbyt W (Nat.lt_of_lt_of_le hEr.glt hW.size) (fun j hj => (hW.cell hEr.glt).trans (hEr.table j hj)) (fun i h => (hW.cell hgl).trans (hcells i h)) (Nat.lt_of_lt_of_le hgl hW.size) (by omega) hcp
        generalize hX : (((([(4 : Int)] ++ vn ss.toNat) ++ vn lo.toNat) ++ vn hi.toNat) ++ [(os.length : Int)]) ++ osB os = X at *
        have HX : Hid ((((([(4 : Int)] ++ vn ss.toNat) ++ vn lo.toNat) ++ vn hi.toNat) ++ [(os.length : Int)]) ++ osB os = X) := hX
        have HOW8 : Hid (OwnB wr (w.heap.size + 1) (.slice (some ⟨g, 0, none⟩) X.length cp) X) := hown
        clear hX hcells hown
        go_wp2_with (first
          | (go_at_call 185; (refine Hck.out.mono ?_; rintro e w8 ⟨rfl, hb8⟩; have ho8 := HOW8.out.keep hb8; have hb8' := hbl.trans (hb8.mono hBr); have hB8 : w.heap.size + 1 ≤ w8.heap.size := Nat.le_trans hBr hb8.size))
          | (at_builtin; (refine wpList_append_own_at _ rfl (.tmp 56) (.tmp 57) 59 rfl (w.heap.size + 1) 5 i0 (.int .u8 0) 1 1 Tryz.underlying59 hi0 hz0 hz1 hz2 rfl (by decide) (.slice (some ⟨g, 0, none⟩) X.length cp) X.length (u8s X) rfl (World.ownsRow.alloc ho8 _) ⟨w8.heap.size, 0, none⟩ 3 3 (u8s (chk (strOfNums X))) rfl rfl ?hn (u8s_one _) (by unfold maxLen; omega) (by omega) (by simp; omega) ?_; (case hn => exact chk_cells w8 _); intro v9 w9 hq9 hg9 _ hat9; have ho9 : OwnB w9 (w.heap.size + 1) v9 (X ++ chk (strOfNums X)) := (by unfold OwnB; rw [List.length_append, u8s_append]; exact hq9); have hb9 := hb8'.trans (((AppR.refl _ w8).alloc _).grow hg9 hat9 |>.below ho8 hB8))))
        go_ret
        have hw9 : Below w.heap.size w w9 := hz.trans (hb9.mono (Nat.le_succ _))
        have eX : frB ⟨4, ss, lo, hi, 0, 0, 0, os⟩ = X := by rw [← HX.out]; simp [frB]
        exact ⟨⟨_, rfl, by unfold packL; rw [eX]; exact ho9.base (Nat.le_succ _)⟩, hw9⟩
  · skip
    obtain ⟨rfl, rfl, rfl⟩ := hd (by decide)
    obtain rfl := c2 rfl
    obtain rfl := c3 rfl
    clear n2
    have Hr : Hid (∀ W, Calls Tryz.prog 182 #[.int .i64 5] W fun e w' => e = .returned (.bool false) ∧ w' = W) := hasRange_any 5
    have Ho : Hid (∀ W, Calls Tryz.prog 183 #[.int .i64 5] W fun e w' => e = .returned (.bool true) ∧ w' = W) := hasOps_any 5
    have hzs : (w.alloc (.cells #[.int .i64 5, .int .u32 ss, .int .u64 0, .int .u64 0, .int .u8 0, .int .u8 0, .int .u8 0, .slice a os.length cap] 58)).heap.size = w.heap.size + 1 := by simp
    have x1 : IntKind.u64.wrap ss = ss := u64r _ (by omega)
    have s1 := (vn_size 9 ss.toNat (by omega)).2
    have HOW : Hid (∀ o ∈ os, OpW o) := ho
    have HE : Hid (∀ W, Below (w.heap.size + 1) (w.alloc (.cells #[.int .i64 5, .int .u32 ss, .int .u64 0, .int .u64 0, .int .u8 0, .int .u8 0, .int .u8 0, .slice a os.length cap] 58)) W → Env W) := fun W hb => (hE.below hz).below (hzs ▸ hb)
    have HBY : Hid (Byt ((([(5 : Int)] ++ vn ss.toNat) ++ [(os.length : Int)]) ++ osB os)) := by
      have e : (([(5 : Int)] ++ vn ss.toNat) ++ [(os.length : Int)]) ++ osB os = frB ⟨5, ss, 0, 0, 0, 0, 0, os⟩ := by simp [frB]
      rw [e]; exact hby
    have hB1 : w.heap.size + 1 ≤ (w.alloc (.cells #[.int .i64 5, .int .u32 ss, .int .u64 0, .int .u64 0, .int .u8 0, .int .u8 0, .int .u8 0, .slice a os.length cap] 58)).heap.size := by simp
    have hb1' : Below (w.heap.size + 1) (w.alloc (.cells #[.int .i64 5, .int .u32 ss, .int .u64 0, .int .u64 0, .int .u8 0, .int .u8 0, .int .u8 0, .slice a os.length cap] 58)) (w.alloc (.cells #[.int .i64 5, .int .u32 ss, .int .u64 0, .int .u64 0, .int .u8 0, .int .u8 0, .int .u8 0, .slice a os.length cap] 58)) := Below.refl _ _
    have y1' : ((w.alloc (.cells #[.int .i64 5, .int .u32 ss, .int .u64 0, .int .u64 0, .int .u8 0, .int .u8 0, .int .u8 0, .slice a os.length cap] 58)).alloc (.cells #[.int .u8 5] 5)).cell? ⟨w.heap.size, 1, none⟩ = some (.int .u32 ss) := (World.cell?_alloc_lt _ _ ⟨w.heap.size, 1, none⟩ (show w.heap.size < (w.alloc (.cells #[.int .i64 5, .int .u32 ss, .int .u64 0, .int .u64 0, .int .u8 0, .int .u8 0, .int .u8 0, .slice a os.length cap] 58)).heap.size from hB1)).trans ((cell_of_row _ _ _ _ _ _ (heap_alloc_new w _)).trans rfl)
    have HN1 : OwnB ((w.alloc (.cells #[.int .i64 5, .int .u32 ss, .int .u64 0, .int .u64 0, .int .u8 0, .int .u8 0, .int .u8 0, .slice a os.length cap] 58)).alloc (.cells #[.int .u8 5] 5)) (w.heap.size + 1) (.slice (some ⟨w.heap.size + 1, 0, none⟩) 1 1) [(5 : Int)] := by
      have h := own_new1 (w.alloc (.cells #[.int .i64 5, .int .u32 ss, .int .u64 0, .int .u64 0, .int .u8 0, .int .u8 0, .int .u8 0, .slice a os.length cap] 58)) (w.heap.size + 1) 5 hB1
      rw [hzs] at h
      exact h
    have hN1 : w.heap.size + 1 ≤ ((w.alloc (.cells #[.int .i64 5, .int .u32 ss, .int .u64 0, .int .u64 0, .int .u8 0, .int .u8 0, .int .u8 0, .slice a os.length cap] 58)).alloc (.cells #[.int .u8 5] 5)).heap.size := by simp
    have hb1'' : Below (w.heap.size + 1) (w.alloc (.cells #[.int .i64 5, .int .u32 ss, .int .u64 0, .int .u64 0, .int .u8 0, .int .u8 0, .int .u8 0, .slice a os.length cap] 58)) ((w.alloc (.cells #[.int .i64 5, .int .u32 ss, .int .u64 0, .int .u64 0, .int .u8 0, .int .u8 0, .int .u8 0, .slice a os.length cap] 58)).alloc (.cells #[.int .u8 5] 5)) := hb1'.alloc hB1 _
    go_enter Tryz.func107, Tryz.ntmps107
    go_wp2_with (first
      | (go_at_call 181; refine (appVar_int ss a1 (by omega) (w.heap.size + 1) _ [5] _ hN1 (by simp) HN1).mono ?_; rintro e w2 ⟨v2, rfl, ho2, r2⟩; have hb2 : Below (w.heap.size + 1) (w.alloc (.cells #[.int .i64 5, .int .u32 ss, .int .u64 0, .int .u64 0, .int .u8 0, .int .u8 0, .int .u8 0, .slice a os.length cap] 58)) w2 := hb1''.trans (r2.below HN1 hN1); have hB2 : w.heap.size + 1 ≤ w2.heap.size := Nat.le_trans (by simp) hb2.size; obtain ⟨t20, t21, t22, t23, t24, t25, t26, t27⟩ := fr8N (hzs ▸ hb2) rfl)
      | (go_at_call 182; refine (Hr.out _).mono ?_; rintro e wx ⟨rfl, hwx⟩; obtain rfl := hwx.symm)
      | (go_at_call 183; refine (Ho.out _).mono ?_; rintro e wx ⟨rfl, hwx⟩; obtain rfl := hwx.symm)
      | (at_builtin; refine wpList_append_own_at _ rfl (.tmp 36) (.tmp 41) 59 rfl (w.heap.size + 1) 5 i0 (.int .u8 0) 1 1 Tryz.underlying59 hi0 hz0 hz1 hz2 rfl (by decide) v2 ([(5 : Int)] ++ vn ss.toNat).length (u8s ([(5 : Int)] ++ vn ss.toNat)) rfl (ho2.alloc _) ⟨w2.heap.size, 0, none⟩ 1 1 (u8s [(os.length : Int)]) rfl rfl ?hn (u8s_one _) (by unfold maxLen; simp only [List.length_append, List.length_cons, List.length_nil]; omega) (by simp only [List.length_append, List.length_cons, List.length_nil]; omega) (by simp; omega) ?_; (case hn => exact cell_one_new _ _ _); intro v6 w6 hq6 hg6 _ hat6; have ho6 : OwnB w6 (w.heap.size + 1) v6 (([(5 : Int)] ++ vn ss.toNat) ++ [(os.length : Int)]) := (by unfold OwnB; rw [List.length_append, u8s_append]; exact hq6); have hb6 : Below (w.heap.size + 1) (w.alloc (.cells #[.int .i64 5, .int .u32 ss, .int .u64 0, .int .u64 0, .int .u8 0, .int .u8 0, .int .u8 0, .slice a os.length cap] 58)) w6 := hb2.trans (((AppR.refl v2 w2).alloc _).grow hg6 hat6 |>.below ho2 hB2); have hB6 : w.heap.size + 1 ≤ w6.heap.size := Nat.le_trans (by simp) hb6.size; obtain ⟨t60, t61, t62, t63, t64, t65, t66, t67⟩ := fr8N (hzs ▸ hb6) rfl))
    go_loopw [3, 46] (fun vv iv wr => ∃ i : Nat, i ≤ os.length ∧ iv = .int .i64 i ∧ OwnB wr (w.heap.size + 1) vv ((([(5 : Int)] ++ vn ss.toNat) ++ [(os.length : Int)]) ++ osB (os.take i)) ∧ Below (w.heap.size + 1) (w.alloc (.cells #[.int .i64 5, .int .u32 ss, .int .u64 0, .int .u64 0, .int .u8 0, .int .u8 0, .int .u8 0, .slice a os.length cap] 58)) wr) (fun _ iv _ => os.length - (intOf iv).toNat)
    case atStart => exact ⟨0, Nat.zero_le _, rfl, by simpa [osB] using ho6, hb6⟩
    case round =>
      obtain ⟨i, hi', rfl, hown, hbl⟩ := hrel
      have hBr : w.heap.size + 1 ≤ wr.heap.size := Nat.le_trans (by simp) hbl.size
      have hlen : ((([(5 : Int)] ++ vn ss.toNat) ++ [(os.length : Int)]) ++ osB (os.take i)).length ≤ 100000 := by
        have := osB_len (os.take i) (fun o h => HOW.out o (List.mem_of_mem_take h))
        have h2 : (os.take i).length ≤ 256 := by rw [List.length_take]; have := n1; omega
        simp only [List.length_append, List.length_cons, List.length_nil] at *
        omega
      by_cases hlt : i < os.length
      · have li : (i : Int) < (os.length : Int) := by omega
        rcases hO with h0 | ⟨g, off, rfl, hO⟩
        · subst h0; cases hlt
        have hBw : Below w.heap.size w wr := hz.trans (hbl.mono (Nat.le_succ _))
        obtain ⟨c0, c1, c2, c3, c4, c5⟩ := (hO.below hBw).cells hlt
        have hwi := ho os[i] (List.getElem_mem hlt)
        have hki := ok_kinds (hop os[i] (List.getElem_mem hlt))
        have htk := osB_take os hlt
        have HWi : Hid (OpW os[i] ∧ (os[i].kd = 1 ∨ os[i].kd = 2)) := ⟨hwi, hki⟩
        have hlen2 : ((([(5 : Int)] ++ vn ss.toNat) ++ [(os.length : Int)]) ++ osB (os.take i)).length + 100 ≤ 140737488355328 := by omega
        clear ho hop hO hwi hki
        go_wp2_with (go_at_call 184; (refine (appOp_any os[i] HWi.out.1 HWi.out.2 (w.heap.size + 1) _ _ _ (by simp; omega) hlen2 (hown.alloc _)).mono ?_; rintro e w7 ⟨v7, rfl, ho7, r7⟩; have hb7 := (hbl.alloc hBr _).trans (r7.below (hown.alloc _) (by simp; omega))))
        go_roundw
        case rel => exact ⟨i + 1, hlt, by go_num, by rw [htk, ← List.append_assoc]; exact ho7, hb7⟩
        case measure => simp [intOf]; omega
      · obtain rfl : i = os.length := by omega
        rw [List.take_length] at hown hlen
        obtain ⟨g, cp, rfl, hcp, hgl, hcells⟩ := hown.view (by simp)
        have hbyt : Byt ((([(5 : Int)] ++ vn ss.toNat) ++ [(os.length : Int)]) ++ osB os) := HBY.out
        have hEr := HE.out wr hbl
        have Hck : Hid (Calls Tryz.prog 185 #[.slice (some ⟨g, 0, none⟩) ((([(5 : Int)] ++ vn ss.toNat) ++ [(os.length : Int)]) ++ osB os).length cp] wr fun e w' => e = .returned (.agg #[.int .u8 (dig (strOfNums ((([(5 : Int)] ++ vn ss.toNat) ++ [(os.length : Int)]) ++ osB os)) 0), .int .u8 (dig (strOfNums ((([(5 : Int)] ++ vn ss.toNat) ++ [(os.length : Int)]) ++ osB os)) 1), .int .u8 (dig (strOfNums ((([(5 : Int)] ++ vn ss.toNat) ++ [(os.length : Int)]) ++ osB os)) 2)]) ∧ Below wr.heap.size wr w') := checkOf_any _ _ wr fun W hW => shaB g 0 cp _ hbyt W (Nat.lt_of_lt_of_le hEr.glt hW.size) (fun j hj => (hW.cell hEr.glt).trans (hEr.table j hj)) (fun i h => (hW.cell hgl).trans (hcells i h)) (Nat.lt_of_lt_of_le hgl hW.size) (by omega) hcp
        generalize hX : (([(5 : Int)] ++ vn ss.toNat) ++ [(os.length : Int)]) ++ osB os = X at *
        have HX : Hid ((([(5 : Int)] ++ vn ss.toNat) ++ [(os.length : Int)]) ++ osB os = X) := hX
        have HOW8 : Hid (OwnB wr (w.heap.size + 1) (.slice (some ⟨g, 0, none⟩) X.length cp) X) := hown
        clear hX hcells hown
        go_wp2_with (first
          | (go_at_call 185; (refine Hck.out.mono ?_; rintro e w8 ⟨rfl, hb8⟩; have ho8 := HOW8.out.keep hb8; have hb8' := hbl.trans (hb8.mono hBr); have hB8 : w.heap.size + 1 ≤ w8.heap.size := Nat.le_trans hBr hb8.size))
          | (at_builtin; (refine wpList_append_own_at _ rfl (.tmp 56) (.tmp 57) 59 rfl (w.heap.size + 1) 5 i0 (.int .u8 0) 1 1 Tryz.underlying59 hi0 hz0 hz1 hz2 rfl (by decide) (.slice (some ⟨g, 0, none⟩) X.length cp) X.length (u8s X) rfl (World.ownsRow.alloc ho8 _) ⟨w8.heap.size, 0, none⟩ 3 3 (u8s (chk (strOfNums X))) rfl rfl ?hn (u8s_one _) (by unfold maxLen; omega) (by omega) (by simp; omega) ?_; (case hn => exact chk_cells w8 _); intro v9 w9 hq9 hg9 _ hat9; have ho9 : OwnB w9 (w.heap.size + 1) v9 (X ++ chk (strOfNums X)) := (by unfold OwnB; rw [List.length_append, u8s_append]; exact hq9); have hb9 := hb8'.trans (((AppR.refl _ w8).alloc _).grow hg9 hat9 |>.below ho8 hB8))))
        go_ret
        have hw9 : Below w.heap.size w w9 := hz.trans (hb9.mono (Nat.le_succ _))
        have eX : frB ⟨5, ss, 0, 0, 0, 0, 0, os⟩ = X := by rw [← HX.out]; simp [frB]
        exact ⟨⟨_, rfl, by unfold packL; rw [eX]; exact ho9.base (Nat.le_succ _)⟩, hw9⟩
set_option maxRecDepth 100000 in
theorem wpack_good (f : Frm) (a : Option Addr) (cap : Nat) (hT : FrmT f) (w : World) (hE : Env w) (hO : OpsIs w a f.ops) (hok : okFrm f = true) :
    Calls Tryz.prog 58 #[f.val (.slice a f.ops.length cap)] w fun e w' => (∃ v, e = .returned (.tuple #[v, .nilIface]) ∧ OwnB w' w.heap.size v (packL f)) ∧ Below w.heap.size w w' := by
  have hB := fun W h1 h2 => wbytes_good f a cap hT W h1 h2 hok
  obtain ⟨k, ss, lo, hi, d0, d1, d2, os⟩ := f
  unfold Frm.val at *
  dsimp only at *
  have hz : Below w.heap.size w (w.alloc (.cells #[.int .i64 k, .int .u32 ss, .int .u64 lo, .int .u64 hi, .int .u8 d0, .int .u8 d1, .int .u8 d2, .slice a os.length cap] 58)) := (Below.refl _ _).alloc (Nat.le_refl _) _
  have hR := rightFrame_any k ss lo hi d0 d1 d2 a cap os hT.ops _ (hE.sents.below hz) (hE.tens.below hz) (hO.below hz)
  rw [hok] at hR
  have HR : Hid (Calls _ _ _ _ _) := hR
  have HB : Hid (∀ W, Env W → OpsIs W a os → Calls Tryz.prog 107 #[.agg #[.int .i64 k, .int .u32 ss, .int .u64 lo, .int .u64 hi, .int .u8 d0, .int .u8 d1, .int .u8 d2, .slice a os.length cap]] W fun e w' => (∃ v, e = .returned v ∧ OwnB w' W.heap.size v (packL ⟨k, ss, lo, hi, d0, d1, d2, os⟩)) ∧ Below W.heap.size W w') := hB
  have HEO : Hid (Env w ∧ OpsIs w a os) := ⟨hE, hO⟩
  clear hR hB hok hT hE hO
  go_enter Tryz.func58, Tryz.ntmps58
  go_wp2_with (first
    | (go_at_call 106; refine HR.out.mono ?_; rintro e w1 ⟨x, rfl, hx, -, hb1⟩; obtain rfl := hx rfl; obtain ⟨y0, y1, y2, y3, y4, y5, y6, y7⟩ := fr8N hb1 rfl; have hb1' := hz.trans (hb1.mono hz.size))
    | (go_at_call 107; refine (HB.out _ (HEO.out.1.below hb1') (HEO.out.2.below hb1')).mono ?_; rintro e w2 ⟨⟨v, rfl, hv⟩, hb2⟩))
  go_ret2
  exact ⟨⟨_, rfl, hv.base hb1'.size⟩, hb1'.trans (hb2.mono hb1'.size)⟩
end Go.Proofs.YtgccjefbedpmpaaGreatDoor
namespace Go.Proofs.YtgccjefbedpmpaaGreatDoor
open Go.RowKit
set_option maxRecDepth 100000 in
theorem kpack_bad (f : Frm) (a : Option Addr) (cap : Nat) (hT : FrmT f) (w : World) (hE : Env w) (hO : OpsIs w a f.ops) (hok : okFrm f = false) :
    Calls Tryz.prog 30 #[f.val (.slice a f.ops.length cap)] w fun e w' => e = .returned (.tuple #[.slice none 0 0, .int .i64 8]) ∧ Below w.heap.size w w' := by
  unfold Frm.val
  have hz : Below w.heap.size w (w.alloc (.cells #[.int .i64 f.kd, .int .u32 f.ss, .int .u64 f.lo, .int .u64 f.hi, .int .u8 f.d0, .int .u8 f.d1, .int .u8 f.d2, .slice a f.ops.length cap] 58)) := (Below.refl _ _).alloc (Nat.le_refl _) _
  have hP := wpack_bad f a cap hT _ (hE.below hz) (hO.below hz) hok
  unfold Frm.val at hP
  have HP : Hid (Calls _ _ _ _ _) := hP
  clear hP
  go_enter Tryz.func30, Tryz.ntmps30
  go_wp2_with (first
    | (go_at_call 58; refine HP.out.mono ?_; rintro e w1 ⟨⟨x, rfl, hx⟩, hb1⟩; have hb1' := hz.trans (hb1.mono hz.size))
    | (go_at_call 59; refine (number_ref 8 _ _ hx ((hE.below hb1').handle)).mono ?_; rintro e w2 ⟨rfl, hb2⟩))
  go_ret2
  exact ⟨rfl, hb1'.trans (hb2.mono hb1'.size)⟩
set_option maxRecDepth 100000 in
theorem kpack_good (f : Frm) (a : Option Addr) (cap : Nat) (hT : FrmT f) (w : World) (hE : Env w) (hO : OpsIs w a f.ops) (hok : okFrm f = true) :
    Calls Tryz.prog 30 #[f.val (.slice a f.ops.length cap)] w fun e w' => (∃ v, e = .returned (.tuple #[v, .int .i64 0]) ∧ OwnB w' w.heap.size v (packL f)) ∧ Below w.heap.size w w' := by
  unfold Frm.val
  have hz : Below w.heap.size w (w.alloc (.cells #[.int .i64 f.kd, .int .u32 f.ss, .int .u64 f.lo, .int .u64 f.hi, .int .u8 f.d0, .int .u8 f.d1, .int .u8 f.d2, .slice a f.ops.length cap] 58)) := (Below.refl _ _).alloc (Nat.le_refl _) _
  have hP := wpack_good f a cap hT _ (hE.below hz) (hO.below hz) hok
  unfold Frm.val at hP
  have HP : Hid (Calls _ _ _ _ _) := hP
  clear hP
  go_enter Tryz.func30, Tryz.ntmps30
  go_wp2_with (first
    | (go_at_call 58; refine HP.out.mono ?_; rintro e w1 ⟨⟨v, rfl, hv⟩, hb1⟩; have hb1' := hz.trans (hb1.mono hz.size))
    | (go_at_call 59; refine (number_nil _).mono ?_; rintro e w2 ⟨rfl, rfl⟩))
  go_ret2
  exact ⟨⟨_, rfl, hv.base (by simp)⟩, hb1'⟩
end Go.Proofs.YtgccjefbedpmpaaGreatDoor

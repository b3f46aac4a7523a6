import Derived.Test.YtgccjefbedpmpaaGreatDoorGStr
import Derived.Test.YtgccjefbedpmpaaGreatDoorGRep1
namespace Go.Proofs.YtgccjefbedpmpaaGreatDoor
open Go.RowKit Go.MuLone
theorem waits1_any (o : Opn) (tg : Int) (hc : ccT o) (w : World) : Calls Tryz.prog 167 #[.agg #[.int .i64 o.kd, .int .u32 o.cl, .int .u32 o.ck, .int .u32 o.st, .int .u64 o.rf, .int .i32 o.ch], .int .u64 tg] w fun e w' => e = .returned (.int .i64 (cmpI o.key tg)) ∧ Below w.heap.size w w' := by
  have HK : Hid (∀ W, Calls Tryz.prog 93 #[.agg #[.int .i64 o.kd, .int .u32 o.cl, .int .u32 o.ck, .int .u32 o.st, .int .u64 o.rf, .int .i32 o.ch]] W fun e w' => e = .returned (.int .u64 o.key) ∧ Below W.heap.size W w') := fun W => pKeyOf_any o.kd o.cl o.ck o.st o.rf o.ch hc.1 hc.2 W
  have hB : Below w.heap.size w (w.alloc (.cells #[.int .i64 o.kd, .int .u32 o.cl, .int .u32 o.ck, .int .u32 o.st, .int .u64 o.rf, .int .i32 o.ch] 43)) := below1' _ _
  go_enter Tryz.func167, Tryz.ntmps167
  go_wp2_with (first
    | (go_at_call 93; refine (HK.out _).mono ?_; rintro e w1 ⟨rfl, hb1⟩)
    | (go_at_call 168; refine (cmp64 _ _ _).mono ?_; rintro e w2 ⟨rfl, rfl⟩))
  go_ret
  exact ⟨rfl, hB.trans (hb1.mono hB.size)⟩
/-- By their keys. -/
def ByKey (os : List Opn) : Prop := os.Pairwise fun x y => x.key < y.key
theorem ByKey.bs {os : List Opn} (h : ByKey os) (tg : Int) : BsM (fun o => cmpI o.key tg) os := fun p q hpq hq hc => by
  have h1 := List.pairwise_iff_getElem.1 h p q (by omega) hq hpq
  have h2 := (cmpL _ _).1 hc
  exact (cmpL _ _).2 (by omega)
theorem waitsAt_any (b : Nat) (st cl ss : Int) (top vK : Value) (a : Option Addr) (cap : Nat) (W : List Opn) (k : Int) (w : World) (h : RowIs w b 118 7 (rep7 st cl top (.slice a W.length cap) ss vK)) (hO : OpsIs w a W) (hn : W.length < 4611686018427387904) (hs : ByKey W) (hc : ∀ o ∈ W, ccT o) :
    Calls Tryz.prog 95 #[.pointer (some ⟨b, 2, none⟩), .int .u64 k] w fun e w' => (∃ i, BsP (fun o => cmpI o.key k) W i ∧ e = .returned (.tuple #[.int .i64 i, .bool (bsF (fun o => cmpI o.key k) W i)])) ∧ Below w.heap.size w w' := by
  have c4 : w.cell? ⟨b, 4, none⟩ = some (.slice a W.length cap) := h.cell (j := 4) (by omega)
  have HB : Hid (Calls _ _ _ _ _) := bsf_any 167 (fun o => cmpI o.key k) k a cap W w (enters_of Tryz.func167 (by kernel_rfl) rfl) (fun o ho V => waits1_any o k (hc o ho) V) hO hn (hs.bs k)
  clear h hO hn hs hc
  go_enter Tryz.func95, Tryz.ntmps95
  go_wp2_with (go_at_call 166; refine HB.out.mono ?_; rintro e w1 ⟨⟨i, hi, rfl⟩, hb1⟩)
  go_ret2
  exact ⟨⟨i, hi, rfl⟩, hb1⟩
/-- What stands in a tree can be told. -/
structure TextOk (os : List Opn) : Prop where
  tell : Tellable os
  sort : SortU (goneOf os)
  ch : ∀ o ∈ os, -2147483648 ≤ o.ch ∧ o.ch ≤ 2147483647
theorem bText_any (b : Nat) (st cl ss : Int) (top vW vK : Value) (t : Tr) (w : World) (h : RowIs w b 118 7 (rep7 st cl top vW ss vK)) (hI : IsTr w top t) (hT : TextOk t.list) : Calls Tryz.prog 54 #[.pointer (some ⟨b, 2, none⟩)] w fun e w' => StrP t.list e ∧ Below w.heap.size w w' := by
  obtain ⟨p0, rfl⟩ := hI.ptr
  have c3 : w.cell? ⟨b, 3, none⟩ = some (.pointer p0) := h.cell (j := 3) (by omega)
  have HS : Hid (Calls _ _ _ _ _) := sOps_any t _ w hI (by have := hT.tell.len; omega)
  have HT : Hid (TextOk t.list) := hT
  clear h hI hT
  go_enter Tryz.func54, Tryz.ntmps54
  go_wp2_with (first
    | (go_at_call 100; refine HS.out.mono ?_; rintro e w1 ⟨⟨s, rfl, ho⟩, hb1⟩; obtain ⟨a1, c1, rfl, -⟩ := own_viewN (own0 ho); have HO : Hid (OwnO w1 w.heap.size (.slice a1 t.list.length c1) t.list ∧ Below w.heap.size w w1) := ⟨ho, hb1⟩; clear ho hb1)
    | (go_at_call 101; refine (string_any a1 c1 t.list _ (OwnO.is HO.out.1) HT.out.tell HT.out.sort HT.out.ch).mono ?_; rintro e w2 ⟨⟨xs, hp, hs, rfl⟩, hb2⟩; have HP : Hid (xs.Perm (insOf t.list) ∧ xs.Pairwise (fun x y => ¬ ahd y x)) := ⟨hp, hs⟩; clear hp hs))
  go_ret
  exact ⟨⟨xs, HP.out.1, HP.out.2, rfl⟩, HO.out.2.trans (hb2.mono HO.out.2.size)⟩
set_option maxRecDepth 100000 in
theorem rText_any (b : Nat) (cl ss : Int) (top vW vK : Value) (t : Tr) (w : World) (h : RowIs w b 118 7 (rep7 0 cl top vW ss vK)) (hI : IsTr w top t) (hT : TextOk t.list) : Calls Tryz.prog 26 #[.pointer (some ⟨b, 0, none⟩)] w fun e w' => StrP t.list e ∧ RowIs w' b 118 7 (rep7 0 cl top vW ss vK) ∧ But (fun x => x = b) w w' := by
  have c0 : w.cell? ⟨b, 0, none⟩ = some (.int .i32 0) := h.cell (j := 0) (by omega)
  have f0 := h.free 0
  have h1 := rep_lock h
  have hI1 : IsTr (w.setCell ⟨b, 0, none⟩ (.int .i32 1)) top t := isTr_but h (by decide) (But.set b 0 _) hI
  have HS : Hid (Calls _ _ _ _ _) := bText_any b 1 cl ss top vW vK t _ h1 hI1 hT
  have H1 : Hid (RowIs (w.setCell ⟨b, 0, none⟩ (.int .i32 1)) b 118 7 (rep7 1 cl top vW ss vK)) := h1
  clear h h1 hI hI1 hT
  go_enter_defers Tryz.func26, Tryz.ntmps26
  go_wp2_with (first
    | (go_at_call 49; refine (lock_free muLib ⟨b, 0, none⟩ _ c0 f0).mono ?_; rintro e w' ⟨rfl, rfl⟩)
    | (go_at_call 54; refine HS.out.mono ?_; rintro e w2 ⟨⟨xs, hp, hs, rfl⟩, hb2⟩; have HP : Hid (xs.Perm (insOf t.list) ∧ xs.Pairwise (fun x y => ¬ ahd y x)) := ⟨hp, hs⟩; clear hp hs))
  refine leaves_cons (f := 50) (args := #[.pointer (some ⟨b, 0, none⟩)]) (by simp) (by simp [go_sem]) ?_
  have h2 := H1.out.below hb2 H1.out.lt
  refine (unlock_deferred muLib ⟨b, 0, none⟩ .returning _ (h2.cell (j := 0) (by omega)) (h2.free 0)).mono ?_
  rintro e u' w'' ⟨rfl, rfl, rfl⟩
  exact ⟨_, results_tmp rfl _ _ _, ⟨xs, HP.out.1, HP.out.2, rfl⟩, rep_unlock h2, ((But.set b 0 _).trans (But.below hb2)).trans (But.set b 0 _)⟩
end Go.Proofs.YtgccjefbedpmpaaGreatDoor
namespace Go.Proofs.YtgccjefbedpmpaaGreatDoor
open Go.RowKit
theorem rep_top {w : World} {b : Nat} {st cl ss : Int} {top vW vK : Value} (h : RowIs w b 118 7 (rep7 st cl top vW ss vK)) (v : Value) : RowIs (w.setCell ⟨b, 3, none⟩ v) b 118 7 (rep7 st cl v vW ss vK) := (h.set 3 v).congr fun j _ => by
  match j with
  | 0 => rfl
  | 1 => rfl
  | 2 => rfl
  | 3 => rfl
  | 4 => rfl
  | 5 => rfl
  | _ + 6 => rfl
/-- What take leaves where nothing waits. -/
def Take0 (b : Nat) (st cl ss : Int) (vK : Value) (t2 : Tr) (w w' : World) : Prop := ∃ top, RowIs w' b 118 7 (rep7 st cl top (.slice none 0 0) ss vK) ∧ IsTr w' top t2 ∧ But (fun x => x = b) w w'
set_option maxRecDepth 100000 in
set_option maxHeartbeats 1000000 in
theorem take0_any (b : Nat) (st cl ss : Int) (top vK : Value) (t : Tr) (o : Opn) (w : World) (h : RowIs w b 118 7 (rep7 st cl top (.slice none 0 0) ss vK)) (hI : IsTr w top t) (ht : t.T) (ho : KeyT o) (hE : Env w) (hs : (t.with o (rkOf o.key)).size ≤ 1000000) :
    Calls Tryz.prog 98 #[.pointer (some ⟨b, 2, none⟩), .agg #[.int .i64 o.kd, .int .u32 o.cl, .int .u32 o.ck, .int .u32 o.st, .int .u64 o.rf, .int .i32 o.ch]] w fun e w' => e = .returned (.tuple #[]) ∧ Take0 b st cl ss vK (t.with o (rkOf o.key)) w w' := by
  obtain ⟨p0, rfl⟩ := hI.ptr
  have HW : Hid (∀ W, Below w.heap.size w W → Calls Tryz.prog 169 #[.agg #[.pointer p0], .agg #[.int .i64 o.kd, .int .u32 o.cl, .int .u32 o.ck, .int .u32 o.st, .int .u64 o.rf, .int .i32 o.ch]] W fun e w' => (∃ p, e = .returned (.agg #[p]) ∧ IsTr w' p (t.with o (rkOf o.key))) ∧ Below W.heap.size W w') := fun W hW => sWith_any o ho t _ W (hI.below hW) ht (hE.below hW)
  have hbl := h.lt
  have hbn : b ≠ w.heap.size := by omega
  generalize t.with o (rkOf o.key) = t2' at *
  have HS : Hid (t2'.size ≤ 1000000) := hs
  obtain ⟨vW, hvW⟩ : ∃ vW : Value, vW = .slice none 0 0 := ⟨_, rfl⟩
  rw [← hvW] at h
  have HD0 : Hid ((RowIs (w.alloc (.cells #[.int .i64 o.kd, .int .u32 o.cl, .int .u32 o.ck, .int .u32 o.st, .int .u64 o.rf, .int .i32 o.ch] 43)).drew b 118 7 (rep7 st cl (.pointer p0) vW ss vK) ∧ Below w.heap.size w (w.alloc (.cells #[.int .i64 o.kd, .int .u32 o.cl, .int .u32 o.ck, .int .u32 o.st, .int .u64 o.rf, .int .i32 o.ch] 43)).drew) ∧ RowIs (w.alloc (.cells #[.int .i64 o.kd, .int .u32 o.cl, .int .u32 o.ck, .int .u32 o.st, .int .u64 o.rf, .int .i32 o.ch] 43)).drew w.heap.size 43 6 (opV o)) := ⟨⟨(h.alloc _).drew, (below1' _ _).drew⟩, RowIs.drew (RowIs.last (w := w) (n := 6) (f := opV o) (cs := #[.int .i64 o.kd, .int .u32 o.cl, .int .u32 o.ck, .int .u32 o.st, .int .u64 o.rf, .int .i32 o.ch]) rfl rfl)⟩
  clear h hI ht ho hE hs
  go_enter Tryz.func98, Tryz.ntmps98
  go_wp2_with fail
  refine wp_region_held_drew (S := fun W => RowIs W w.heap.size 43 6 (opV o)) (by kernel_rfl) HD0.out.2 (fun hHeld => ?_)
  generalize World.drew _ = wD at hHeld HD0 ⊢
  have HD := HD0.out.1
  have HD : Hid (RowIs wD b 118 7 (rep7 st cl (.pointer p0) vW ss vK) ∧ Below w.heap.size w wD) := HD
  clear HD0
  refine wpAnyH_take (i := 0) (oi := { dst := some 5, op := _, type := _, pos := _, after := _, guard := _ }) rfl (by kernel_rfl) (by kernel_rfl) (by kernel_rfl) (fun _ _ _ h => h) (Or.inl ⟨by rfl, fun w _ => by go_simp; rfl⟩) hHeld ?_
  simp only [Act.put, List.setIfInBounds_toArray, List.set_cons_zero, List.set_cons_succ]
  refine wpAnyH_take (i := 1) (oi := { dst := some 6, op := _, type := _, pos := _, after := _, guard := _ }) rfl (by kernel_rfl) (by kernel_rfl) (by kernel_rfl) (fun _ _ _ h => h) (Or.inl ⟨by rfl, fun w _ => by go_simp; rfl⟩) hHeld ?_
  simp only [Act.put, List.setIfInBounds_toArray, List.set_cons_zero, List.set_cons_succ]
  refine wpAnyH_take (i := 2) (oi := { dst := some 7, op := _, type := _, pos := _, after := _, guard := _ }) rfl (by kernel_rfl) (by kernel_rfl) (by kernel_rfl) (fun _ _ _ h => h) (Or.inl ⟨by rfl, fun w _ => by go_simp; rfl⟩) hHeld ?_
  simp only [Act.put, List.setIfInBounds_toArray, List.set_cons_zero, List.set_cons_succ]
  refine wpAnyH_take (i := 3) (oi := { dst := some 8, op := _, type := _, pos := _, after := _, guard := _ }) rfl (by kernel_rfl) (by kernel_rfl) (by kernel_rfl) (fun _ _ _ h => h) (Or.inl ⟨by rfl, fun w _ => by go_simp; rfl⟩) hHeld ?_
  simp only [Act.put, List.setIfInBounds_toArray, List.set_cons_zero, List.set_cons_succ]
  refine wpAnyH_take (i := 5) (oi := { dst := some 10, op := _, type := _, pos := _, after := _, guard := _ }) rfl (by kernel_rfl) (by kernel_rfl) (by kernel_rfl) (fun _ _ _ h => h) (Or.inl ⟨by rfl, fun w hS => by obtain ⟨a0, a1, a2, a3, a4, a5⟩ := boxCells hS; go_simp; rfl⟩) hHeld ?_
  simp only [Act.put, List.setIfInBounds_toArray, List.set_cons_zero, List.set_cons_succ]
  refine wpAnyH_ready (rs := [4]) (by kernel_rfl) (by simp) (AllReadyH.cons (o := { dst := some 9, op := _, type := _, pos := _, after := _, guard := _ }) rfl (fun K hK => ?_) AllReadyH.nil)
  have q3 : wD.cell? ⟨b, 3, none⟩ = some (.pointer p0) := HD.out.1.cell (j := 3) (by omega)
  go_simp
  clear q3
  refine hK.out _ _ hHeld (fun hHeld => ?_)
  clear hK K
  refine wpAnyH_ready (rs := [6]) (by kernel_rfl) (by simp) (AllReadyH.cons (o := { dst := some 11, op := _, type := _, pos := _, after := _, guard := _ }) rfl (fun K hK => ?_) AllReadyH.nil)
  go_simp
  refine (HW.out _ HD.out.2).mono ?_
  rintro e w2 ⟨⟨p2, rfl, hp2⟩, hb2⟩
  obtain ⟨p2, rfl⟩ := hp2.ptr
  have R2 := HD.out.1.below hb2 HD.out.1.lt
  have t2 : w2.cell? ⟨b, 3, none⟩ = some (.pointer p0) := R2.cell (j := 3) (by omega)
  have f2 : w2.frozen? ⟨b, 3, none⟩ = false := R2.free 3
  have H2 : Hid (RowIs w2 b 118 7 (rep7 st cl (.pointer p0) vW ss vK) ∧ IsTr w2 (.pointer p2) t2' ∧ Below wD.heap.size wD w2) := ⟨R2, hp2, hb2⟩
  have HB2 := hHeld.below hb2 hHeld.lt
  refine hK.out _ _ HB2 (fun hHeld => ?_)
  clear hK K R2 hp2 hb2 HB2
  refine wpAnyH_take (i := 7) (oi := { dst := some 12, op := _, type := _, pos := _, after := _, guard := _ }) rfl (by kernel_rfl) (by kernel_rfl) (by kernel_rfl) (fun _ _ _ h => h) (Or.inl ⟨by rfl, fun w _ => by go_simp; rfl⟩) hHeld ?_
  simp only [Act.put, List.setIfInBounds_toArray, List.set_cons_zero, List.set_cons_succ]
  refine wpAnyH_take (i := 8) (oi := { dst := some 13, op := _, type := _, pos := _, after := _, guard := _ }) rfl (by kernel_rfl) (by kernel_rfl) (by kernel_rfl) (fun _ _ _ h => h) (Or.inl ⟨by rfl, fun w _ => by go_simp; rfl⟩) hHeld ?_
  simp only [Act.put, List.setIfInBounds_toArray, List.set_cons_zero, List.set_cons_succ]
  refine wpAnyH_ready (rs := [9]) (by kernel_rfl) (by simp) (AllReadyH.cons (o := { dst := none, op := _, type := _, pos := _, after := _, guard := _ }) rfl (fun K hK => ?_) AllReadyH.nil)
  go_simp
  refine hK.out _ _ (hHeld.setOther (a := ⟨b, 3, none⟩) (fun e => hbn e) _) (fun hHeld => ?_)
  clear hK K t2 f2
  refine wpAnyH_done (by kernel_rfl) ?_ _
  have h3 : RowIs (w2.setCell ⟨b, 3, none⟩ (.pointer p2)) b 118 7 (rep7 st cl (.pointer p2) vW ss vK) := rep_top H2.out.1 _
  have H3 : Hid (RowIs (w2.setCell ⟨b, 3, none⟩ (.pointer p2)) b 118 7 (rep7 st cl (.pointer p2) vW ss vK) ∧ IsTr (w2.setCell ⟨b, 3, none⟩ (.pointer p2)) (.pointer p2) t2' ∧ But (fun x => x = b) w (w2.setCell ⟨b, 3, none⟩ (.pointer p2))) := ⟨h3, isTr_but H2.out.1 (by decide) (But.set b 3 _) H2.out.2.1, ((But.below HD.out.2).trans (But.below H2.out.2.2)).trans (But.set b 3 _)⟩
  clear h3 H2 HD hHeld
  generalize World.setCell w2 _ _ = w4 at H3 ⊢
  subst hvW
  have HF : Hid (∀ W, Below w4.heap.size w4 W → Calls Tryz.prog 97 #[.pointer (some ⟨b, 2, none⟩)] W fun e w' => e = .returned (.bool (decide (120 ≤ t2'.size))) ∧ Below W.heap.size W w') := fun W hW => isFull_any b st cl ss _ _ vK t2' W (H3.out.1.below hW H3.out.1.lt) (H3.out.2.1.below hW) HS.out
  have HX : Hid (∀ W, Calls Tryz.prog 170 #[.slice none 0 0, .func (.func 96) #[.pointer (some ⟨b, 2, none⟩)] #[]] W fun e w' => e = .returned (.int .i64 (-1)) ∧ Below W.heap.size W w') := fun W => ixf_any b (fun _ => false) none 0 [] W (Or.inl rfl) (by decide) (fun o ho => by cases ho)
  go_wp2_with fail
  go_loopw [4] (fun _ wr => wr = w4) (fun _ _ => 0)
  case atStart => rfl
  case round =>
    obtain rfl := hrel
    generalize hfu : decide (120 ≤ t2'.size) = fu at *
    cases fu
    · go_wp2_with (first
        | (go_at_call 97; refine (HF.out _ (Below.refl _ _)).mono ?_; rintro e w5 ⟨rfl, hb5⟩; have c4 : w5.cell? ⟨b, 4, none⟩ = some (.slice none 0 0) := (H3.out.1.below hb5 H3.out.1.lt).cell (j := 4) (by omega))
        | (go_at_call 170; refine (HX.out _).mono ?_; rintro e w6 ⟨rfl, hb6⟩))
      refine bodyPost_ret (results_none rfl _ _ _) rfl ?_
      have hb := hb5.trans (hb6.mono hb5.size)
      exact ⟨rfl, _, H3.out.1.below hb H3.out.1.lt, H3.out.2.1.below hb, H3.out.2.2.trans (But.below hb)⟩
    · go_wp2_with (go_at_call 97; refine (HF.out _ (Below.refl _ _)).mono ?_; rintro e w5 ⟨rfl, hb5⟩)
      go_end0
      exact ⟨rfl, _, H3.out.1.below hb5 H3.out.1.lt, H3.out.2.1.below hb5, H3.out.2.2.trans (But.below hb5)⟩
end Go.Proofs.YtgccjefbedpmpaaGreatDoor
namespace Go.Proofs.YtgccjefbedpmpaaGreatDoor
open Go.RowKit
/-- A book at work on an operation of its own. -/
structure WrS (w W : World) (b : Nat) (st cl ss : Int) (top vW vK : Value) (o : Opn) : Prop where
  below : Below w.heap.size w W
  row : RowIs W b 118 7 (rep7 st cl top vW ss vK)
  box : RowIs W w.heap.size 43 6 (opV o)
  res : RowIs W (w.heap.size + 1) 43 6 (opV o0)
theorem WrS.kept {w W W2 : World} {b : Nat} {st cl ss : Int} {top vW vK : Value} {o : Opn} (h : WrS w W b st cl ss top vW vK o) (hb : Below W.heap.size W W2) : WrS w W2 b st cl ss top vW vK o := ⟨h.below.trans (hb.mono h.below.size), h.row.below hb h.row.lt, h.box.below hb h.box.lt, h.res.below hb h.res.lt⟩
theorem WrS.c3 {w W : World} {b : Nat} {st cl ss : Int} {top vW vK : Value} {o : Opn} (h : WrS w W b st cl ss top vW vK o) : W.cell? ⟨b, 3, none⟩ = some top := h.row.cell (j := 3) (by omega)
theorem WrS.c2 {w W : World} {b : Nat} {st cl ss : Int} {top vW vK : Value} {o : Opn} (h : WrS w W b st cl ss top vW vK o) : W.cell? ⟨b, 2, none⟩ = some (.int .u32 cl) := h.row.cell (j := 2) (by omega)
theorem WrS.new (w : World) {b : Nat} {st cl ss : Int} {top vW vK : Value} (o : Opn) (h : RowIs w b 118 7 (rep7 st cl top vW ss vK)) : WrS w ((w.alloc (.cells #[.int .i64 o.kd, .int .u32 o.cl, .int .u32 o.ck, .int .u32 o.st, .int .u64 o.rf, .int .i32 o.ch] 43)).alloc (.cells #[.int .i64 0, .int .u32 0, .int .u32 0, .int .u32 0, .int .u64 0, .int .i32 0] 43)) b st cl ss top vW vK o := by
  have hz : (w.alloc (.cells #[.int .i64 o.kd, .int .u32 o.cl, .int .u32 o.ck, .int .u32 o.st, .int .u64 o.rf, .int .i32 o.ch] 43)).heap.size = w.heap.size + 1 := by simp
  have r1 := RowIs.last (w := w) (t := 43) (f := opV o) (n := 6) (cs := #[.int .i64 o.kd, .int .u32 o.cl, .int .u32 o.ck, .int .u32 o.st, .int .u64 o.rf, .int .i32 o.ch]) rfl rfl
  have r2 := RowIs.last (w := w.alloc (.cells #[.int .i64 o.kd, .int .u32 o.cl, .int .u32 o.ck, .int .u32 o.st, .int .u64 o.rf, .int .i32 o.ch] 43)) (t := 43) (f := opV o0) (n := 6) (cs := #[.int .i64 0, .int .u32 0, .int .u32 0, .int .u32 0, .int .u64 0, .int .i32 0]) rfl rfl
  rw [hz] at r2
  have b1 : Below w.heap.size w (w.alloc (.cells #[.int .i64 o.kd, .int .u32 o.cl, .int .u32 o.ck, .int .u32 o.st, .int .u64 o.rf, .int .i32 o.ch] 43)) := below1' _ _
  exact ⟨b1.alloc b1.size _, (h.alloc _).alloc _, r1.alloc _, r2⟩
theorem But.putRow {X : Nat → Prop} {w W : World} (h : But X w W) {g : Nat} (hg : w.heap.size ≤ g) (cs : Array Value) : But X w (W.setRow g cs) := ⟨by have := h.size; simp; omega, h.os, h.tape, h.output, fun i hi hx => (setRow_other _ _ _ _ (by omega)).trans (h.block i hi hx)⟩
theorem WrS.put {w W : World} {b : Nat} {st cl ss : Int} {top vW vK : Value} {o : Opn} (h : WrS w W b st cl ss top vW vK o) (hb : b < w.heap.size) (c k s : Int) : WrS w (((W.setCell ⟨w.heap.size, 1, none⟩ (.int .u32 c)).setCell ⟨w.heap.size, 2, none⟩ (.int .u32 k)).setCell ⟨w.heap.size, 3, none⟩ (.int .u32 s)) b st cl ss top vW vK ⟨o.kd, c, k, s, o.rf, o.ch⟩ := by
  refine ⟨((h.below.setCell (p := ⟨w.heap.size, 1, none⟩) (Nat.le_refl _) _).setCell (p := ⟨w.heap.size, 2, none⟩) (Nat.le_refl _) _).setCell (p := ⟨w.heap.size, 3, none⟩) (Nat.le_refl _) _, ((h.row.setOther (a := ⟨w.heap.size, 1, none⟩) (fun e => by have : w.heap.size = b := e; omega) _).setOther (a := ⟨w.heap.size, 2, none⟩) (fun e => by have : w.heap.size = b := e; omega) _).setOther (a := ⟨w.heap.size, 3, none⟩) (fun e => by have : w.heap.size = b := e; omega) _, ?_, ((h.res.setOther (a := ⟨w.heap.size, 1, none⟩) (fun e => by have : w.heap.size = w.heap.size + 1 := e; omega) _).setOther (a := ⟨w.heap.size, 2, none⟩) (fun e => by have : w.heap.size = w.heap.size + 1 := e; omega) _).setOther (a := ⟨w.heap.size, 3, none⟩) (fun e => by have : w.heap.size = w.heap.size + 1 := e; omega) _⟩
  refine (((h.box.set 1 _).set 2 _).set 3 _).congr fun j hj => ?_
  match j, hj with
  | 0, _ => rfl
  | 1, _ => rfl
  | 2, _ => rfl
  | 3, _ => rfl
  | 4, _ => rfl
  | 5, _ => rfl
set_option maxRecDepth 100000 in
set_option maxHeartbeats 1000000 in
theorem write0_any (b : Nat) (st cl ss : Int) (vK : Value) (rf ch : Int) (w : World) (h : RowIs w b 118 7 (rep7 st cl (.pointer none) (.slice none 0 0) ss vK)) (hcl : 1 ≤ cl ∧ cl ≤ 1048575) (hE : Env w) :
    Calls Tryz.prog 155 #[.pointer (some ⟨b, 2, none⟩), .agg #[.int .i64 1, .int .u32 0, .int .u32 0, .int .u32 0, .int .u64 rf, .int .i32 ch]] w fun e w' => e = .returned (.tuple #[.agg #[.int .i64 1, .int .u32 cl, .int .u32 1, .int .u32 1, .int .u64 rf, .int .i32 ch], .int .i64 0]) ∧ Take0 b st cl ss vK (Tr.nil.with ⟨1, cl, 1, 1, rf, ch⟩ (rkOf (cl * 1048576 + 1))) w w' := by
  have hW0 := WrS.new w ⟨1, 0, 0, 0, rf, ch⟩ h
  have hbl := h.lt
  have HO : Hid (∀ W, Below w.heap.size w W → Calls Tryz.prog 100 #[.agg #[.pointer none]] W fun e w' => (∃ s, e = .returned s ∧ OwnO w' W.heap.size s []) ∧ Below W.heap.size W w') := fun W hW => sOps_any .nil _ W rfl (by decide)
  have HF : Hid (∀ W, RowIs W b 118 7 (rep7 st cl (.pointer none) (.slice none 0 0) ss vK) → Calls Tryz.prog 97 #[.pointer (some ⟨b, 2, none⟩)] W fun e w' => e = .returned (.bool false) ∧ Below W.heap.size W w') := fun W hW => isFull_any b st cl ss _ _ vK .nil W hW rfl (by decide)
  have HS : Hid (∀ W, Calls Tryz.prog 223 #[.int .u32 0, .int .u32 0] W fun e w' => e = .returned (.bool false) ∧ w' = W) := fun W => isSpent_any 0 0 W
  have HWt : Hid (∀ W, RowIs W b 118 7 (rep7 st cl (.pointer none) (.slice none 0 0) ss vK) → Calls Tryz.prog 95 #[.pointer (some ⟨b, 2, none⟩), .int .u64 (cl * 1048576 + 1)] W fun e w' => e = .returned (.tuple #[.int .i64 0, .bool false]) ∧ Below W.heap.size W w') := fun W hW => (waitsAt_any b st cl ss _ vK none 0 [] (cl * 1048576 + 1) W hW (Or.inl rfl) (by decide) List.Pairwise.nil (fun o ho => by cases ho)).mono fun e w' q => ⟨q.1.elim fun i r => by
    have : i = 0 := Nat.le_zero.1 r.1.le
    subst this
    exact r.2, q.2⟩
  have HT : Hid (∀ W, Below w.heap.size w W → RowIs W b 118 7 (rep7 st cl (.pointer none) (.slice none 0 0) ss vK) → Calls Tryz.prog 98 #[.pointer (some ⟨b, 2, none⟩), .agg #[.int .i64 1, .int .u32 cl, .int .u32 1, .int .u32 1, .int .u64 rf, .int .i32 ch]] W fun e w' => e = .returned (.tuple #[]) ∧ Take0 b st cl ss vK (Tr.nil.with ⟨1, cl, 1, 1, rf, ch⟩ (rkOf (cl * 1048576 + 1))) W w') := fun W hW hR => take0_any b st cl ss _ vK .nil ⟨1, cl, 1, 1, rf, ch⟩ W hR rfl trivial ⟨⟨by show (0 : Int) ≤ cl; omega, by show cl < 4294967296; omega⟩, ⟨by show (0 : Int) ≤ 1; decide, by show (1 : Int) < 4294967296; decide⟩⟩ (hE.below hW) (by show (1 : Nat) ≤ 1000000; decide)
  have HK : Hid ((0 ≤ cl ∧ cl < 4294967296) ∧ (0 ≤ (1 : Int) ∧ (1 : Int) < 4294967296)) := ⟨by omega, by decide⟩
  generalize Tr.nil.with ⟨1, cl, 1, 1, rf, ch⟩ (rkOf (cl * 1048576 + 1)) = t2 at *
  have HW0 : Hid (WrS w _ b st cl ss (.pointer none) (.slice none 0 0) vK ⟨1, 0, 0, 0, rf, ch⟩) := hW0
  clear h hE hW0
  go_enter Tryz.func155, Tryz.ntmps155
  go_wp2_with fail
  refine wp_region_held_drew (S := fun W => WrS w W b st cl ss (.pointer none) (.slice none 0 0) vK ⟨1, 0, 0, 0, rf, ch⟩) (by kernel_rfl) (HW0.out.kept (Below.refl _ _).drew) (fun hHeld => ?_)
  clear HW0
  generalize World.drew _ = wD at hHeld ⊢
  refine wpAnyH_take (i := 0) (oi := { dst := some 11, op := _, type := _, pos := _, after := _, guard := _ }) rfl (by kernel_rfl) (by kernel_rfl) (by kernel_rfl) (fun _ _ _ h => h) (Or.inl ⟨by rfl, fun w _ => by go_simp; rfl⟩) hHeld ?_
  simp only [Act.put, List.setIfInBounds_toArray, List.set_cons_zero, List.set_cons_succ]
  refine wpAnyH_take (i := 1) (oi := { dst := some 12, op := _, type := _, pos := _, after := _, guard := _ }) rfl (by kernel_rfl) (by kernel_rfl) (by kernel_rfl) (fun _ _ _ h => h) (Or.inl ⟨by rfl, fun w _ => by go_simp; rfl⟩) hHeld ?_
  simp only [Act.put, List.setIfInBounds_toArray, List.set_cons_zero, List.set_cons_succ]
  refine wpAnyH_take (i := 2) (oi := { dst := some 13, op := _, type := _, pos := _, after := _, guard := _ }) rfl (by kernel_rfl) (by kernel_rfl) (by kernel_rfl) (fun _ _ _ h => h) (Or.inl ⟨by rfl, fun w _ => by go_simp; rfl⟩) hHeld ?_
  simp only [Act.put, List.setIfInBounds_toArray, List.set_cons_zero, List.set_cons_succ]
  refine wpAnyH_take (i := 3) (oi := { dst := some 14, op := _, type := _, pos := _, after := _, guard := _ }) rfl (by kernel_rfl) (by kernel_rfl) (by kernel_rfl) (fun _ _ _ h => h) (Or.inl ⟨by rfl, fun w hS => by have q := WrS.c3 hS; go_simp; rfl⟩) hHeld ?_
  simp only [Act.put, List.setIfInBounds_toArray, List.set_cons_zero, List.set_cons_succ]
  refine wpAnyH_take (i := 5) (oi := { dst := some 16, op := _, type := _, pos := _, after := _, guard := _ }) rfl (by kernel_rfl) (by kernel_rfl) (by kernel_rfl) (fun _ _ _ h => h) (Or.inl ⟨by rfl, fun w _ => by go_simp; rfl⟩) hHeld ?_
  simp only [Act.put, List.setIfInBounds_toArray, List.set_cons_zero, List.set_cons_succ]
  refine wpAnyH_take (i := 6) (oi := { dst := some 17, op := _, type := _, pos := _, after := _, guard := _ }) rfl (by kernel_rfl) (by kernel_rfl) (by kernel_rfl) (fun _ _ _ h => h) (Or.inl ⟨by rfl, fun w _ => by go_simp; rfl⟩) hHeld ?_
  simp only [Act.put, List.setIfInBounds_toArray, List.set_cons_zero, List.set_cons_succ]
  refine wpAnyH_take (i := 7) (oi := { dst := some 18, op := _, type := _, pos := _, after := _, guard := _ }) rfl (by kernel_rfl) (by kernel_rfl) (by kernel_rfl) (fun _ _ _ h => h) (Or.inl ⟨by rfl, fun w _ => by go_simp; rfl⟩) hHeld ?_
  simp only [Act.put, List.setIfInBounds_toArray, List.set_cons_zero, List.set_cons_succ]
  refine wpAnyH_take (i := 8) (oi := { dst := some 19, op := _, type := _, pos := _, after := _, guard := _ }) rfl (by kernel_rfl) (by kernel_rfl) (by kernel_rfl) (fun _ _ _ h => h) (Or.inl ⟨by rfl, fun w hS => by have q := WrS.c2 hS; go_simp; rfl⟩) hHeld ?_
  simp only [Act.put, List.setIfInBounds_toArray, List.set_cons_zero, List.set_cons_succ]
  refine wpAnyH_ready (rs := [4]) (by kernel_rfl) (by simp) (AllReadyH.cons (o := { dst := some 15, op := _, type := _, pos := _, after := _, guard := _ }) rfl (fun K hK => ?_) AllReadyH.nil)
  go_simp
  refine (HO.out _ hHeld.below).mono ?_
  rintro e w2 ⟨⟨s2, rfl, ho2⟩, hb2⟩
  obtain ⟨a2, n2, rfl, -⟩ := own_viewN (own0 ho2)
  have HL : Hid (∀ W, Below w2.heap.size w2 W → Calls Tryz.prog 222 #[.slice a2 0 n2, .int .u32 cl] W fun e w' => e = .returned (.tuple #[.int .u32 0, .int .u32 0]) ∧ Below W.heap.size W w') := fun W hW => last_any cl [] a2 n2 W (Or.inl rfl) (by decide)
  refine hK.out _ _ (hHeld.kept hb2) (fun hHeld => ?_)
  clear hK K hb2 ho2
  refine wpAnyH_ready (rs := [9]) (by kernel_rfl) (by simp) (AllReadyH.cons (o := { dst := some 20, op := _, type := _, pos := _, after := _, guard := _ }) rfl (fun K hK => ?_) AllReadyH.nil)
  go_simp
  refine (HL.out _ (Below.refl _ _)).mono ?_
  rintro e w3 ⟨rfl, hb3⟩
  refine hK.out _ _ (hHeld.kept hb3) (fun hHeld => ?_)
  clear hK K hb3 HL
  refine wpAnyH_take (i := 10) (oi := { dst := some 10, op := _, type := _, pos := _, after := _, guard := _ }) rfl (by kernel_rfl) (by kernel_rfl) (by kernel_rfl) (fun _ _ _ h => h) (Or.inl ⟨by rfl, fun w _ => by go_simp; rfl⟩) hHeld ?_
  simp only [Act.put, List.setIfInBounds_toArray, List.set_cons_zero, List.set_cons_succ]
  refine wpAnyH_take (i := 11) (oi := { dst := some 21, op := _, type := _, pos := _, after := _, guard := _ }) rfl (by kernel_rfl) (by kernel_rfl) (by kernel_rfl) (fun _ _ _ h => h) (Or.inl ⟨by rfl, fun w _ => by go_simp; rfl⟩) hHeld ?_
  simp only [Act.put, List.setIfInBounds_toArray, List.set_cons_zero, List.set_cons_succ]
  refine wpAnyH_take (i := 12) (oi := { dst := some 22, op := _, type := _, pos := _, after := _, guard := _ }) rfl (by kernel_rfl) (by kernel_rfl) (by kernel_rfl) (fun _ _ _ h => h) (Or.inl ⟨by rfl, fun w _ => by go_simp; rfl⟩) hHeld ?_
  simp only [Act.put, List.setIfInBounds_toArray, List.set_cons_zero, List.set_cons_succ]
  refine wpAnyH_ready (rs := [13]) (by kernel_rfl) (by simp) (AllReadyH.cons (o := { dst := some 6, op := _, type := _, pos := _, after := _, guard := _ }) rfl (fun K hK => ?_) AllReadyH.nil)
  go_simp
  refine hK.out _ _ hHeld (fun hHeld => ?_)
  clear hK K
  refine wpAnyH_ready (rs := [14]) (by kernel_rfl) (by simp) (AllReadyH.cons (o := { dst := some 7, op := _, type := _, pos := _, after := _, guard := _ }) rfl (fun K hK => ?_) AllReadyH.nil)
  go_simp
  refine hK.out _ _ hHeld (fun hHeld => ?_)
  clear hK K
  refine wpAnyH_done (by kernel_rfl) ?_ _
  clear HO
  go_wp2_with (first
    | (go_at_call 97; refine (HF.out _ hHeld.row).mono ?_; rintro e w4 ⟨rfl, hb4⟩; have hH4 := hHeld.kept hb4; obtain ⟨q0, q1, q2, q3, q4, q5⟩ := boxCells hH4.box; have f1 := hH4.box.free 1; have f2 := hH4.box.free 2; have f3 := hH4.box.free 3; have cc2 := hH4.c2; have H4 : Hid (WrS w w4 b st cl ss (.pointer none) (.slice none 0 0) vK ⟨1, 0, 0, 0, rf, ch⟩) := hH4; clear hH4 hb4)
    | (go_at_call 223; refine (HS.out _).mono ?_; rintro e w5 ⟨rfl, hw5⟩; obtain rfl := hw5.symm))
  have H5 : Hid (WrS w (((w4.setCell ⟨w.heap.size, 1, none⟩ (.int .u32 cl)).setCell ⟨w.heap.size, 2, none⟩ (.int .u32 1)).setCell ⟨w.heap.size, 3, none⟩ (.int .u32 1)) b st cl ss (.pointer none) (.slice none 0 0) vK ⟨1, cl, 1, 1, rf, ch⟩) := H4.out.put hbl cl 1 1
  clear H4 q0 q1 q2 q3 q4 q5 f1 f2 f3 cc2 hHeld
  generalize ((w4.setCell ⟨w.heap.size, 1, none⟩ (.int .u32 cl)).setCell ⟨w.heap.size, 2, none⟩ (.int .u32 1)).setCell ⟨w.heap.size, 3, none⟩ (.int .u32 1) = w6 at H5 ⊢
  refine (pKeyOf_any _ _ _ _ _ _ HK.out.1 HK.out.2 _).mono ?_
  rintro e w7 ⟨rfl, hb7⟩
  have H7 : Hid (WrS w w7 b st cl ss (.pointer none) (.slice none 0 0) vK ⟨1, cl, 1, 1, rf, ch⟩) := H5.out.kept hb7
  clear H5 hb7
  go_wp2_with (first
    | (go_at_call 95; refine (HWt.out _ H7.out.row).mono ?_; rintro e w8 ⟨rfl, hb8⟩; have hH8 := H7.out.kept hb8; obtain ⟨q0, q1, q2, q3, q4, q5⟩ := boxCells hH8.box; have H8 : Hid (WrS w w8 b st cl ss (.pointer none) (.slice none 0 0) vK ⟨1, cl, 1, 1, rf, ch⟩) := hH8; clear hH8 hb8)
    | (go_at_call 98; refine (HT.out _ H8.out.below H8.out.row).mono ?_; rintro e w9 ⟨rfl, tp, hr9, ht9, hb9⟩; have R9 : RowIs w9 w.heap.size 43 6 (opV ⟨1, cl, 1, 1, rf, ch⟩) := (hb9.block _ H8.out.box.lt (fun e => by omega)).trans H8.out.box; have R10 : RowIs w9 (w.heap.size + 1) 43 6 (opV o0) := (hb9.block _ H8.out.res.lt (fun e => by omega)).trans H8.out.res; obtain ⟨z0, z1, z2, z3, z4, z5⟩ := boxCells R9; have H9 : Hid (RowIs w9 b 118 7 (rep7 st cl tp (.slice none 0 0) ss vK) ∧ IsTr w9 tp t2 ∧ But (fun x => x = b) w w9) := ⟨hr9, ht9, (But.below H8.out.below).trans hb9⟩; clear hr9 ht9 hb9 q0 q1 q2 q3 q4 q5)
    | (refine wpList_store_row rfl 43 (.tmp 4) (.tmp 64) rfl (w.heap.size + 1) (rowOf 6 (opV ⟨1, cl, 1, 1, rf, ch⟩)) rfl rfl _ _ R10 (by rw [rowOf_size]; exact infoOp6) (by rw [rowOf_size, rowOf_size]) (opV_one _) ?_))
  exact bodyPost_ret (results_cell_tmp Tryz.results155 _ _ (w.heap.size + 1) 43 _ (0, 0) _ _ rfl rfl (R10.setRow (opV ⟨1, cl, 1, 1, rf, ch⟩)) Tryz.underlying43 rfl (by rw [rowOf_size]; exact infoOp6)) rfl ⟨rfl, tp, H9.out.1.setRowOther (by omega) _, isTr_set R10 (by decide) _ H9.out.2.1, H9.out.2.2.putRow (Nat.le_succ _) _⟩
end Go.Proofs.YtgccjefbedpmpaaGreatDoor

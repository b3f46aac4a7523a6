import Derived.Test.YtgccjefbedpmpaaGreatDoorVInsr
import Derived.Test.YtgccjefbedpmpaaGreatDoorVRReady
import Derived.Test.YtgccjefbedpmpaaGreatDoorVKnow1
namespace Go.Proofs.YtgccjefbedpmpaaGreatDoor
open Go.RowKit Go.MuLone
set_option maxRecDepth 100000
set_option maxHeartbeats 8000000
def writeM (cl : Int) (t : Tr) (ws : List Opn) (o : Opn) : Opn × Int × (Tr × List Opn) :=
 if noRoom cl t then (o0, 7, (t, ws)) else (ownOf cl t o, 0, takeL (lessKey (ownOf cl t o).key ws).length (t.with (ownOf cl t o) (rkOf (ownOf cl t o).key)) (lessKey (ownOf cl t o).key ws))
def insM (cl : Int) (t : Tr) (ws L : List Opn) (at' ch : Int) : Opn × Int × (Tr × List Opn) :=
 if at' < 0 ∨ (L.length : Int) < at' then (o0, 2, (t, ws)) else if okChar ch = false then (o0, 3, (t, ws)) else writeM cl t ws ⟨1, 0, 0, 0, refAt L at', ch⟩
def delM (cl : Int) (t : Tr) (ws L : List Opn) (at' : Int) : Opn × Int × (Tr × List Opn) :=
 if at' < 0 ∨ (L.length : Int) ≤ at' then (o0, 2, (t, ws)) else writeM cl t ws ⟨2, 0, 0, 0, (getO L[at'.toNat]?).key, 0⟩
theorem TakeP.same {w w' : World} {b : Nat} {st cl ss : Int} {top vW vK : Value} {t : Tr} {ws : List Opn} (h : BookIs w b st cl ss top vW vK t ws) (hb : Below w.heap.size w w') : TakeP b st cl ss vK vW (t, ws) w w' := ⟨top, vW, h.below hb, rfl, But.below hb⟩
theorem WriteQ.book {w w' : World} {b : Nat} {st cl ss : Int} {top vW vK : Value} {t : Tr} {ws : List Opn} {o o2 : Opn} {n : Int} (h : BookIs w b st cl ss top vW vK t ws) (q : WriteQ b st cl ss vK vW t ws o o2 n w w') : ∃ R, writeM cl t ws o = (o2, n, R) ∧ TakeP b st cl ss vK vW R w w' := by
 unfold writeM
 rcases q with ⟨h1, rfl, rfl, hb⟩ | ⟨h1, rfl, rfl, hT⟩
 ·exact ⟨_, by rw [if_pos h1], TakeP.same h hb⟩
 ·exact ⟨_, by rw [if_neg (by rw [h1]; simp)], hT⟩
theorem BInsQ.book {w w' : World} {b : Nat} {st cl ss : Int} {top vW vK : Value} {t : Tr} {ws L : List Opn} {at' ch : Int} {o2 : Opn} {n : Int} (h : BookIs w b st cl ss top vW vK t ws) (q : BInsQ b st cl ss vK vW t ws L at' ch o2 n w w') : ∃ R, insM cl t ws L at' ch = (o2, n, R) ∧ TakeP b st cl ss vK vW R w w' := by
 unfold insM
 rcases q with ⟨h1, rfl, rfl, hb⟩ | ⟨h1, h2, h3, rfl, rfl, hb⟩ | ⟨h1, h2, h3, hq⟩
 ·exact ⟨_, by rw [if_pos h1], TakeP.same h hb⟩
 ·exact ⟨_, by rw [if_neg (by omega), if_pos h3], TakeP.same h hb⟩
 ·rw [if_neg (by omega), if_neg (by rw [h3]; simp)]
  exact hq.book h
theorem BDelQ.book {w w' : World} {b : Nat} {st cl ss : Int} {top vW vK : Value} {t : Tr} {ws L : List Opn} {at' : Int} {o2 : Opn} {n : Int} (h : BookIs w b st cl ss top vW vK t ws) (q : BDelQ b st cl ss vK vW t ws L at' o2 n w w') : ∃ R, delM cl t ws L at' = (o2, n, R) ∧ TakeP b st cl ss vK vW R w w' := by
 unfold delM
 rcases q with ⟨h1, rfl, rfl, hb⟩ | ⟨h1, h2, hq⟩
 ·exact ⟨_, by rw [if_pos h1], TakeP.same h hb⟩
 ·rw [if_neg (by omega)]
  exact hq.book h
theorem BookIs.locked {w : World} {b : Nat} {cl ss : Int} {top vW vK : Value} {t : Tr} {ws : List Opn} (h : BookIs w b 0 cl ss top vW vK t ws) : BookIs (w.setCell ⟨b, 0, none⟩ (.int .i32 1)) b 1 cl ss top vW vK t ws :=
 ⟨rep_lock h.row, isTr_but h.row (by decide) (But.set b 0 _) h.tree, own_frame h.own fun g hg => heap_setCell_other _ _ _ _ (fun e => h.apart hg e), h.typ, h.wtyp, h.wlen, h.size, h.env.but (But.set b 0 _) (fun x e => e ▸ h.far) (by have := h.row.lt; have := h.far; omega), h.far, h.wfar⟩
theorem BookIs.free {w : World} {b : Nat} {cl ss : Int} {top vW vK : Value} {t : Tr} {ws : List Opn} (h : BookIs w b 1 cl ss top vW vK t ws) : BookIs (w.setCell ⟨b, 0, none⟩ (.int .i32 0)) b 0 cl ss top vW vK t ws :=
 ⟨rep_unlock h.row, isTr_but h.row (by decide) (But.set b 0 _) h.tree, own_frame h.own fun g hg => heap_setCell_other _ _ _ _ (fun e => h.apart hg e), h.typ, h.wtyp, h.wlen, h.size, h.env.but (But.set b 0 _) (fun x e => e ▸ h.far) (by have := h.row.lt; have := h.far; omega), h.far, h.wfar⟩
structure AdS (w W : World) (b : Nat) (st cl ss : Int) (top vW vK : Value) (o : Opn) : Prop where
 below : Below w.heap.size w W
 row : RowIs W b 118 7 (rep7 st cl top vW ss vK)
 box : RowIs W w.heap.size 43 6 (opV o)
theorem AdS.kept {w W W2 : World} {b : Nat} {st cl ss : Int} {top vW vK : Value} {o : Opn} (h : AdS w W b st cl ss top vW vK o) (hb : Below W.heap.size W W2) : AdS w W2 b st cl ss top vW vK o := ⟨h.below.trans (hb.mono h.below.size), h.row.below hb h.row.lt, h.box.below hb h.box.lt⟩
theorem AdS.over {w W : World} {b : Nat} {st cl ss : Int} {top vW vK : Value} {o : Opn} (h : AdS w W b st cl ss top vW vK o) : w.heap.size < W.heap.size := h.box.lt
theorem AdS.put {w W : World} {b g : Nat} {st cl ss : Int} {top vW vK : Value} {o : Opn} (h : AdS w W b st cl ss top vW vK o) (hg : w.heap.size < g) (hb : b < w.heap.size) (cs : Array Value) : AdS w (W.setRow g cs) b st cl ss top vW vK o := ⟨below_setRow' h.below (Nat.le_of_lt hg) _, h.row.setRowOther (by omega) _, h.box.setRowOther (by omega) _⟩
theorem AdS.new (w : World) {b : Nat} {st cl ss : Int} {top vW vK : Value} (o : Opn) (h : RowIs w b 118 7 (rep7 st cl top vW ss vK)) : AdS w (w.alloc (.cells #[.int .i64 o.kd, .int .u32 o.cl, .int .u32 o.ck, .int .u32 o.st, .int .u64 o.rf, .int .i32 o.ch] 43)) b st cl ss top vW vK o := ⟨below1' _ _, h.alloc _, RowIs.last (n := 6) (f := opV o) (cs := #[.int .i64 o.kd, .int .u32 o.cl, .int .u32 o.ck, .int .u32 o.st, .int .u64 o.rf, .int .i32 o.ch]) rfl rfl⟩
theorem bsF_any {k : Int} {ws : List Opn} {i : Nat} (hp : BsP (fun x => cmpI x.key k) ws i) (hs : ByKey ws) : bsF (fun x => cmpI x.key k) ws i = ws.any (fun x => decide (x.key = k)) := by
 cases hf : bsF (fun x => cmpI x.key k) ws i with
 | false =>
  have h1 := lessKey_no hp hs hf
  symm
  rw [List.any_eq_false]
  intro x hx
  rw [← h1] at hx
  have := (List.mem_filter.1 hx).2
  simpa using this
 | true =>
  have h2 := (lessKey_yes hs hf).1
  symm
  rw [List.any_eq_true]
  refine ⟨ws[i], List.getElem_mem h2, ?_⟩
  unfold bsF at hf
  rw [List.getElem?_eq_getElem h2] at hf
  rw [decide_eq_true_eq]
  exact (cmpE _ _).1 (by simpa using hf)
theorem insIdx_putK {k : Int} {ws : List Opn} {i : Nat} {o : Opn} (hp : BsP (fun x => cmpI x.key k) ws i) (ho : o.key = k) : ws.insertIdx i o = putK o ws := by
 rw [insIdx_eq o i ws hp.le]
 have ha : ∀ x ∈ ws.take i, x.key < k := fun x hx => by
  obtain ⟨j, hj, rfl⟩ := List.mem_iff_getElem.1 hx
  rw [List.length_take] at hj
  rw [List.getElem_take]
  exact (cmpL _ _).1 (hp.ahead j (by omega) (by omega))
 have hb : ∀ x ∈ ws.drop i, ¬ x.key < k := fun x hx => by
  obtain ⟨j, hj, rfl⟩ := List.mem_iff_getElem.1 hx
  rw [List.length_drop] at hj
  rw [List.getElem_drop]
  have h5 : 0 ≤ cmpI (ws[i + j]'(by omega)).key k := hp.behind (i + j) (by omega) (by omega)
  exact fun q => by have := (cmpL (ws[i + j]'(by omega)).key k).2 q; omega
 have e0 : ws = ws.take i ++ ws.drop i := (List.take_append_drop i ws).symm
 unfold putK
 conv => rhs; rw [e0]
 rw [List.filter_append, List.filter_append, filter_all (l := ws.take i) (fun x hx => by rw [ho]; simpa using ha x hx), filter_non (l := ws.drop i) (fun x hx => by rw [ho]; simpa using hb x hx), filter_non (p := fun x => !decide (x.key < o.key)) (l := ws.take i) (fun x hx => by rw [ho]; simpa using ha x hx), filter_all (p := fun x => !decide (x.key < o.key)) (l := ws.drop i) (fun x hx => by rw [ho]; simpa using hb x hx)]
 simp
theorem bAdd_known (b : Nat) (st cl ss : Int) (top vW vK : Value) (t : Tr) (ws : List Opn) (o : Opn) (w : World) (H : BookIs w b st cl ss top vW vK t ws) (hby : ByKey ws) (hT : OpT o) (hok : o.ok = true) (tb wb : Bool) (htb : (t.get o.key).isSome = tb) (hwb : ws.any (fun x => decide (x.key = o.key)) = wb) (hkn : (tb || wb) = true) :
  Calls Tryz.prog 51 #[.pointer (some ⟨b, 2, none⟩), .agg #[.int .i64 o.kd, .int .u32 o.cl, .int .u32 o.ck, .int .u32 o.st, .int .u64 o.rf, .int .i32 o.ch]] w fun e w' => e = .returned (.int .i64 5) ∧ Below w.heap.size w w' := by
 have HBk := hidD H
 obtain ⟨p0, rfl⟩ := H.tree.ptr
 obtain ⟨a0, c0, rfl⟩ := ownO_form H.own
 have hbl := H.row.lt
 have HT := hidD hT
 have HBY := hidD hby
 have H0 : Hid (AdS w (w.alloc (.cells #[.int .i64 o.kd, .int .u32 o.cl, .int .u32 o.ck, .int .u32 o.st, .int .u64 o.rf, .int .i32 o.ch] 43)) b st cl ss (.pointer p0) (.slice a0 ws.length c0) vK o) := AdS.new w o H.row
 have HR : Hid (Calls Tryz.prog 92 #[.agg #[.int .i64 o.kd, .int .u32 o.cl, .int .u32 o.ck, .int .u32 o.st, .int .u64 o.rf, .int .i32 o.ch]] (w.alloc (.cells #[.int .i64 o.kd, .int .u32 o.cl, .int .u32 o.ck, .int .u32 o.st, .int .u64 o.rf, .int .i32 o.ch] 43)) fun e w' => e = .returned .nilIface ∧ Below (w.alloc (.cells #[.int .i64 o.kd, .int .u32 o.cl, .int .u32 o.ck, .int .u32 o.st, .int .u64 o.rf, .int .i32 o.ch] 43)).heap.size (w.alloc (.cells #[.int .i64 o.kd, .int .u32 o.cl, .int .u32 o.ck, .int .u32 o.st, .int .u64 o.rf, .int .i32 o.ch] 43)) w') := (rightOp_ref _ _ _ _ _ _ hT.cl hT.ck hT.rf.1 hT.rf.2 _ (H.below (below1' _ _)).env.sents).mono fun e w' ⟨x, e1, e2, _, e4⟩ => ⟨by rw [e1, e2 hok], e4⟩
 have HG : Hid (∀ W, Below w.heap.size w W → Calls Tryz.prog 94 #[.agg #[.pointer p0], .int .u64 (o.cl * 1048576 + o.ck)] W fun e w' => (∃ x : Opn, e = .returned (.tuple #[.agg #[.int .i64 x.kd, .int .u32 x.cl, .int .u32 x.ck, .int .u32 x.st, .int .u64 x.rf, .int .i32 x.ch], .bool tb])) ∧ Below W.heap.size W w') := fun W hW => (sGet_any _ t _ W (HBk.out.tree.below hW) HBk.out.typ).mono fun e w' ⟨e1, e2⟩ => ⟨⟨getO (t.get o.key), by rw [e1, getV_eq]; show _ = Ending.returned (.tuple #[_, .bool tb]); rw [← htb]; rfl⟩, e2⟩
 have HWt : Hid (∀ W, Below w.heap.size w W → Calls Tryz.prog 95 #[.pointer (some ⟨b, 2, none⟩), .int .u64 (o.cl * 1048576 + o.ck)] W fun e w' => (∃ i : Nat, BsP (fun x => cmpI x.key o.key) ws i ∧ e = .returned (.tuple #[.int .i64 i, .bool wb])) ∧ Below W.heap.size W w') := fun W hW => (waitsAt_any b st cl ss _ vK a0 c0 ws _ W (HBk.out.below hW).row (OwnO.is (HBk.out.below hW).own) (by have := HBk.out.wlen; omega) HBY.out HBk.out.wtyp).mono fun e w' ⟨⟨i, e1, e2⟩, e3⟩ => ⟨⟨i, e1, by rw [e2, ← hwb, ← bsF_any (k := o.key) e1 HBY.out]; rfl⟩, e3⟩
 clear htb hwb
 clear H hby hT hok
 go_enter Tryz.func51, Tryz.ntmps51
 cases tb <;> cases wb
 ·cases hkn
 all_goals (
 go_wp2_with (first
  | (go_at_call 92; refine HR.out.mono ?_; rintro e w1 ⟨rfl, hb1⟩; have H1 : Hid (AdS w w1 b st cl ss (.pointer p0) (.slice a0 ws.length c0) vK o) := H0.out.kept hb1; obtain ⟨q0, q1, q2, q3, q4, q5⟩ := boxCells H1.out.box; have c3 := H1.out.row.cell (j := 3) (by omega); clear hb1 H0 HR)
  | (go_at_call 59; refine (number_nil _).mono ?_; rintro e w2 ⟨rfl, hw2⟩; obtain rfl := hw2.symm)
  | (go_at_call 93; refine (pKeyOf_any _ _ _ _ _ _ HT.out.cl HT.out.ck _).mono ?_; rintro e w3 ⟨rfl, hb3⟩; have H3 : Hid (AdS w w3 b st cl ss (.pointer p0) (.slice a0 ws.length c0) vK o) := H1.out.kept hb3; have c3 : w3.cell? ⟨b, 3, none⟩ = some (.pointer p0) := H3.out.row.cell (j := 3) (by omega); clear q0 q1 q2 q3 q4 q5 hb3 H1)
  | (go_at_call 94; refine (HG.out _ H3.out.below).mono ?_; rintro e w4 ⟨⟨x, rfl⟩, hb4⟩; have H4 : Hid (AdS w w4 b st cl ss (.pointer p0) (.slice a0 ws.length c0) vK o) := H3.out.kept hb4; have R4 : RowIs (w4.alloc (.cells #[.int .i64 0, .int .u32 0, .int .u32 0, .int .u32 0, .int .u64 0, .int .i32 0] 43)) w4.heap.size 43 6 (opV o0) := RowIs.last (n := 6) (f := opV o0) (cs := #[.int .i64 0, .int .u32 0, .int .u32 0, .int .u32 0, .int .u64 0, .int .i32 0]) rfl rfl; clear hb4 H3 c3 HG)
  | (refine wpList_store_row rfl 43 (.tmp 7) (.tmp 26) rfl w4.heap.size (rowOf 6 (opV x)) rfl rfl _ _ R4 (by rw [rowOf_size]; exact infoOp6) (by rw [rowOf_size, rowOf_size]) (opV_one _) ?_; have H5 : Hid (AdS w ((w4.alloc (.cells #[.int .i64 0, .int .u32 0, .int .u32 0, .int .u32 0, .int .u64 0, .int .i32 0] 43)).setRow w4.heap.size (rowOf 6 (opV x))) b st cl ss (.pointer p0) (.slice a0 ws.length c0) vK o) := (H4.out.kept (below1' _ _)).put H4.out.over hbl _; clear R4 H4; generalize World.setRow _ _ _ = w5 at H5 ⊢)
  | (go_at_call 95; refine (HWt.out _ H5.out.below).mono ?_; rintro e w6 ⟨⟨i, hbp, rfl⟩, hb6⟩; have H6 : Hid (AdS w w6 b st cl ss (.pointer p0) (.slice a0 ws.length c0) vK o) := H5.out.kept hb6; have HP := hidD hbp; obtain ⟨q0, q1, q2, q3, q4, q5⟩ := boxCells H6.out.box; have c4 : w6.cell? ⟨b, 4, none⟩ = some (.slice a0 ws.length c0) := H6.out.row.cell (j := 4) (by omega); clear hb6 hbp H5 HWt))
 go_ret
 exact ⟨rfl, H6.out.below⟩)
theorem rdy_list {t : Tr} (h : ByKey t.list) : rdy t = readyL t.list := by
 funext o
 unfold rdy readyL
 rw [get_list _ t h, get_list _ t h]
theorem takeL_list : ∀ (n : Nat) {t : Tr} {ws : List Opn}, BookOk t.list ws → (takeL n t ws).1.list = (takeN n t.list ws).1 ∧ (takeL n t ws).2 = (takeN n t.list ws).2
 | 0, _, _, _ => ⟨rfl, rfl⟩
 | n + 1, t, ws, h => by
  unfold takeL takeN
  rw [rdy_list h.set.by', Tr.list_len]
  by_cases hf : 120 ≤ t.size
  ·rw [if_pos hf, if_pos hf]; exact ⟨rfl, rfl⟩
  ·rw [if_neg hf, if_neg hf]
   cases hi : ws.findIdx? (readyL t.list) with
   | none => exact ⟨rfl, rfl⟩
   | some i =>
    have hk := h.next (by rw [Tr.list_len]; exact hf) hi
    obtain ⟨hi1, -, -⟩ := List.findIdx?_eq_some_iff_getElem.1 hi
    have e : getO ws[i]? = ws[i] := by rw [List.getElem?_eq_getElem hi1]; rfl
    have hl := with_list (getO ws[i]?) (rkOf (getO ws[i]?).key) t h.set.by' (fun x hx => by rw [e]; exact h.apart x hx _ (List.getElem_mem hi1))
    rw [← hl] at hk
    have := takeL_list n hk
    rw [hl] at this
    exact this
def writeN (cl : Int) (os ws : List Opn) (o : Opn) : Opn × Int × (List Opn × List Opn) :=
 if roomL cl os then (o0, 7, (os, ws)) else (ownL cl os o, 0, takeN (lessKey (ownL cl os o).key ws).length (putK (ownL cl os o) os) (lessKey (ownL cl os o).key ws))
def insN (cl : Int) (os ws : List Opn) (at' ch : Int) : Opn × Int × (List Opn × List Opn) :=
 if at' < 0 ∨ ((visR os).length : Int) < at' then (o0, 2, (os, ws)) else if okChar ch = false then (o0, 3, (os, ws)) else writeN cl os ws ⟨1, 0, 0, 0, refAt (visR os) at', ch⟩
def delN (cl : Int) (os ws : List Opn) (at' : Int) : Opn × Int × (List Opn × List Opn) :=
 if at' < 0 ∨ ((visR os).length : Int) ≤ at' then (o0, 2, (os, ws)) else writeN cl os ws ⟨2, 0, 0, 0, (getO (visR os)[at'.toNat]?).key, 0⟩
def OwnRf (os : List Opn) (o : Opn) : Prop := (o.rf = 0 ∨ ∃ p ∈ os, p.key = o.rf ∧ p.kd = 1) ∧ ((o.kd = 1 ∧ okChar o.ch = true) ∨ (o.kd = 2 ∧ o.ch = 0 ∧ o.rf ≠ 0))
theorem lessKey_new {k : Int} {ws : List Opn} : ∀ x ∈ lessKey k ws, x.key ≠ k := fun x hx => by simpa using (List.mem_filter.1 hx).2
theorem own_put {cl : Int} {os ws : List Opn} {o : Opn} (h : BookOk os ws) (hcl : 1 ≤ cl ∧ cl ≤ 1048575) (hr : roomL cl os = false) (ho : OwnRf os o) : BookOk (putK (ownL cl os o) os) (lessKey (ownL cl os o).key ws) :=
 (lessKey_ok h _).put (own_ok h.set hcl hr ho.1 ho.2) (own_key h.set hr) (by unfold roomL at hr; simp only [Bool.or_eq_false_iff, decide_eq_false_iff_not] at hr; omega) (own_ready h.set ho.1) lessKey_new
theorem writeN_ok {cl : Int} {os ws : List Opn} {o : Opn} (h : BookOk os ws) (hcl : 1 ≤ cl ∧ cl ≤ 1048575) (ho : OwnRf os o) : BookOk (writeN cl os ws o).2.2.1 (writeN cl os ws o).2.2.2 := by
 unfold writeN
 cases hr : roomL cl os with
 | true => exact h
 | false => exact takeN_ok _ (own_put h hcl hr ho)
theorem writeM_list {cl : Int} {t : Tr} {ws : List Opn} {o : Opn} (h : BookOk t.list ws) (hcl : 1 ≤ cl ∧ cl ≤ 1048575) (ho : OwnRf t.list o) : (writeM cl t ws o).1 = (writeN cl t.list ws o).1 ∧ (writeM cl t ws o).2.1 = (writeN cl t.list ws o).2.1 ∧ (writeM cl t ws o).2.2.1.list = (writeN cl t.list ws o).2.2.1 ∧ (writeM cl t ws o).2.2.2 = (writeN cl t.list ws o).2.2.2 := by
 have e1 : noRoom cl t = roomL cl t.list := by unfold noRoom roomL; rw [Tr.list_len]
 unfold writeM writeN
 rw [e1]
 cases hr : roomL cl t.list with
 | true => exact ⟨rfl, rfl, rfl, rfl⟩
 | false =>
  have hp := own_put h hcl hr ho
  have hl := with_list (ownOf cl t o) (rkOf (ownOf cl t o).key) t h.set.by' (own_key (o := o) h.set hr)
  have e2 : ownOf cl t o = ownL cl t.list o := rfl
  rw [e2] at hl
  rw [← hl] at hp
  have := takeL_list (lessKey (ownL cl t.list o).key ws).length hp
  rw [hl] at this
  exact ⟨rfl, rfl, this.1, this.2⟩
theorem visR_mem {os : List Opn} {x : Opn} (h : x ∈ visR os) : x ∈ os ∧ x.kd = 1 := by
 have := toldR_mem os _ _ x (List.mem_filter.1 h).1
 obtain ⟨h1, h2⟩ := List.mem_filter.1 this
 exact ⟨h1, by simpa using h2⟩
theorem ins_own {os : List Opn} {at' ch : Int} (h1 : ¬ (at' < 0 ∨ ((visR os).length : Int) < at')) (hc : okChar ch = true) : OwnRf os ⟨1, 0, 0, 0, refAt (visR os) at', ch⟩ := by
 refine ⟨?_, Or.inl ⟨rfl, hc⟩⟩
 show refAt (visR os) at' = 0 ∨ _
 unfold refAt
 by_cases h0 : 0 < at'
 ·rw [if_pos h0]
  have hlt : (at' - 1).toNat < (visR os).length := by omega
  rw [List.getElem?_eq_getElem hlt]
  obtain ⟨m1, m2⟩ := visR_mem (List.getElem_mem hlt)
  exact Or.inr ⟨_, m1, rfl, m2⟩
 ·rw [if_neg h0]; exact Or.inl rfl
theorem del_own {os : List Opn} (hs : SetOk os) {at' : Int} (h1 : ¬ (at' < 0 ∨ ((visR os).length : Int) ≤ at')) : OwnRf os ⟨2, 0, 0, 0, (getO (visR os)[at'.toNat]?).key, 0⟩ := by
 have hlt : at'.toNat < (visR os).length := by omega
 obtain ⟨m1, m2⟩ := visR_mem (List.getElem_mem hlt)
 have e : (getO (visR os)[at'.toNat]?) = (visR os)[at'.toNat] := by rw [List.getElem?_eq_getElem hlt]; rfl
 rw [e]
 refine ⟨Or.inr ⟨_, m1, rfl, m2⟩, Or.inr ⟨rfl, rfl, ?_⟩⟩
 have := okKey_pos (okKey_of (hs.ok _ m1))
 show (visR os)[at'.toNat].key ≠ 0
 omega
theorem insN_ok {cl : Int} {os ws : List Opn} {at' ch : Int} (h : BookOk os ws) (hcl : 1 ≤ cl ∧ cl ≤ 1048575) : BookOk (insN cl os ws at' ch).2.2.1 (insN cl os ws at' ch).2.2.2 := by
 unfold insN
 split
 ·exact h
 ·rename_i h1
  split
  ·exact h
  ·rename_i h2
   exact writeN_ok h hcl (ins_own h1 (by simpa using h2))
theorem delN_ok {cl : Int} {os ws : List Opn} {at' : Int} (h : BookOk os ws) (hcl : 1 ≤ cl ∧ cl ≤ 1048575) : BookOk (delN cl os ws at').2.2.1 (delN cl os ws at').2.2.2 := by
 unfold delN
 split
 ·exact h
 ·rename_i h1
  exact writeN_ok h hcl (del_own h.set h1)
theorem insM_list {cl : Int} {t : Tr} {ws : List Opn} {at' ch : Int} (h : BookOk t.list ws) (hcl : 1 ≤ cl ∧ cl ≤ 1048575) : (insM cl t ws (visR t.list) at' ch).1 = (insN cl t.list ws at' ch).1 ∧ (insM cl t ws (visR t.list) at' ch).2.1 = (insN cl t.list ws at' ch).2.1 ∧ (insM cl t ws (visR t.list) at' ch).2.2.1.list = (insN cl t.list ws at' ch).2.2.1 ∧ (insM cl t ws (visR t.list) at' ch).2.2.2 = (insN cl t.list ws at' ch).2.2.2 := by
 unfold insM insN
 by_cases h1 : at' < 0 ∨ ((visR t.list).length : Int) < at'
 ·rw [if_pos h1, if_pos h1]; exact ⟨rfl, rfl, rfl, rfl⟩
 ·rw [if_neg h1, if_neg h1]
  cases h2 : okChar ch with
  | false => exact ⟨rfl, rfl, rfl, rfl⟩
  | true => exact writeM_list h hcl (ins_own h1 h2)
theorem delM_list {cl : Int} {t : Tr} {ws : List Opn} {at' : Int} (h : BookOk t.list ws) (hcl : 1 ≤ cl ∧ cl ≤ 1048575) : (delM cl t ws (visR t.list) at').1 = (delN cl t.list ws at').1 ∧ (delM cl t ws (visR t.list) at').2.1 = (delN cl t.list ws at').2.1 ∧ (delM cl t ws (visR t.list) at').2.2.1.list = (delN cl t.list ws at').2.2.1 ∧ (delM cl t ws (visR t.list) at').2.2.2 = (delN cl t.list ws at').2.2.2 := by
 unfold delM delN
 by_cases h1 : at' < 0 ∨ ((visR t.list).length : Int) ≤ at'
 ·rw [if_pos h1, if_pos h1]; exact ⟨rfl, rfl, rfl, rfl⟩
 ·rw [if_neg h1, if_neg h1]; exact writeM_list h hcl (del_own h.set h1)
def addM (t : Tr) (ws : List Opn) (o : Opn) : Int × (Tr × List Opn) :=
 if o.ok = false then (4, (t, ws)) else if ((t.get o.key).isSome || ws.any (fun x => decide (x.key = o.key))) = true then (5, (t, ws)) else
 if rdy t o = true then (if 120 ≤ t.size then (7, (t, ws)) else (0, takeL ws.length (t.with o (rkOf o.key)) ws)) else if 12 ≤ ws.length then (7, (t, ws)) else (6, (t, putK o ws))
def addN (os ws : List Opn) (o : Opn) : Int × (List Opn × List Opn) :=
 if o.ok = false then (4, (os, ws)) else if (os.any (fun x => decide (x.key = o.key)) || ws.any (fun x => decide (x.key = o.key))) = true then (5, (os, ws)) else
 if readyL os o = true then (if 120 ≤ os.length then (7, (os, ws)) else (0, takeN ws.length (putK o os) ws)) else if 12 ≤ ws.length then (7, (os, ws)) else (6, (os, putK o ws))
theorem any_not {os : List Opn} {k : Int} (h : os.any (fun x => decide (x.key = k)) = false) : ∀ x ∈ os, x.key ≠ k := fun x hx => by
 have := List.any_eq_false.1 h x hx
 simpa using this
theorem add_put {os ws : List Opn} {o : Opn} (h : BookOk os ws) (ho : o.ok = true) (hk : (os.any (fun x => decide (x.key = o.key)) || ws.any (fun x => decide (x.key = o.key))) = false) (hl : ¬ 120 ≤ os.length) (hr : readyL os o = true) : BookOk (putK o os) ws := by
 obtain ⟨k1, k2⟩ := Bool.or_eq_false_iff.1 hk
 exact h.put ho (any_not k1) (by omega) hr (any_not k2)
theorem addN_ok {os ws : List Opn} {o : Opn} (h : BookOk os ws) : BookOk (addN os ws o).2.1 (addN os ws o).2.2 := by
 unfold addN
 split
 ·exact h
 ·rename_i h0
  split
  ·exact h
  ·rename_i h1
   simp only [Bool.not_eq_false] at h0
   simp only [Bool.not_eq_true] at h1
   split
   ·rename_i h2
    split
    ·exact h
    ·rename_i h3
     exact takeN_ok _ (add_put h h0 h1 h3 h2)
   ·split
    ·exact h
    ·rename_i h3
     obtain ⟨k1, k2⟩ := Bool.or_eq_false_iff.1 h1
     refine ⟨h.set, putK_by h.by' (any_not k2), fun x hx => ?_, by rw [putK_len]; omega, fun x hx y hy => ?_⟩
     ·rcases putK_mem.1 hx with e | q
      ·rw [e]; exact h0
      ·exact h.ok x q
     ·rcases putK_mem.1 hy with e | q
      ·rw [e]; exact any_not k1 x hx
      ·exact h.apart x hx y q
theorem addM_list {t : Tr} {ws : List Opn} {o : Opn} (h : BookOk t.list ws) : (addM t ws o).1 = (addN t.list ws o).1 ∧ (addM t ws o).2.1.list = (addN t.list ws o).2.1 ∧ (addM t ws o).2.2 = (addN t.list ws o).2.2 := by
 have e1 : (t.get o.key).isSome = t.list.any (fun x => decide (x.key = o.key)) := by rw [get_list _ t h.set.by', List.isSome_find?]
 unfold addM addN
 rw [e1, rdy_list h.set.by', Tr.list_len]
 cases h0 : o.ok with
 | false => exact ⟨rfl, rfl, rfl⟩
 | true =>
  simp only [Bool.true_eq_false, if_false]
  cases h1 : (t.list.any (fun x => decide (x.key = o.key)) || ws.any (fun x => decide (x.key = o.key))) with
  | true => exact ⟨rfl, rfl, rfl⟩
  | false =>
   simp only [Bool.false_eq_true, if_false]
   cases h2 : readyL t.list o with
   | true =>
    simp only [if_true]
    by_cases h3 : 120 ≤ t.size
    ·rw [if_pos h3, if_pos h3]; exact ⟨rfl, rfl, rfl⟩
    ·rw [if_neg h3, if_neg h3]
     have hp := add_put h h0 h1 (by rw [Tr.list_len]; exact h3) h2
     have hl := with_list o (rkOf o.key) t h.set.by' (any_not (Bool.or_eq_false_iff.1 h1).1)
     rw [← hl] at hp
     have := takeL_list ws.length hp
     rw [hl] at this
     exact ⟨rfl, this.1, this.2⟩
   | false =>
    simp only [Bool.false_eq_true, if_false]
    by_cases h3 : 12 ≤ ws.length
    ·rw [if_pos h3, if_pos h3]; exact ⟨rfl, rfl, rfl⟩
    ·rw [if_neg h3, if_neg h3]; exact ⟨rfl, rfl, rfl⟩
theorem TakeP.free {b : Nat} {cl ss : Int} {vK vW : Value} {R : Tr × List Opn} {w w' : World} (h : TakeP b 1 cl ss vK vW R w w') : TakeP b 0 cl ss vK vW R w (w'.setCell ⟨b, 0, none⟩ (.int .i32 0)) := by
 obtain ⟨top, v', B, e, k⟩ := h
 exact ⟨top, v', B.free, e, k.trans ((But.set b 0 _).mono fun x e => Or.inl e)⟩
def RInsP (b : Nat) (cl ss : Int) (vK vW : Value) (t : Tr) (ws : List Opn) (at' ch : Int) (w : World) (e : Ending) (w' : World) : Prop :=
 ∃ L, TextL t.list L ∧ ∃ o2 n R, insM cl t ws L at' ch = (o2, n, R) ∧ e = .returned (.tuple #[.agg #[.int .i64 o2.kd, .int .u32 o2.cl, .int .u32 o2.ck, .int .u32 o2.st, .int .u64 o2.rf, .int .i32 o2.ch], .int .i64 n]) ∧ TakeP b 0 cl ss vK vW R w w'
theorem rIns_any (b : Nat) (cl ss : Int) (top vW vK : Value) (t : Tr) (ws : List Opn) (at' ch : Int) (w : World) (H : BookIs w b 0 cl ss top vW vK t ws) (hby : ByKey ws) (hcl : 1 ≤ cl ∧ cl ≤ 1048575) (hT : Tellable t.list) :
  Calls Tryz.prog 45 #[.pointer (some ⟨b, 0, none⟩), .int .i64 at', .int .i32 ch] w fun e w' => RInsP b cl ss vK vW t ws at' ch w e w' := by
 have h := H.row
 have hbl := h.lt
 have HVB : Hid (∀ x, vW.ownBlock = some x → x < w.heap.size) := fun x hx => (World.ownsRow.lt H.own x hx).2
 have c0 : w.cell? ⟨b, 0, none⟩ = some (.int .i32 0) := h.cell (j := 0) (by omega)
 have f0 := h.free 0
 have a0 : (w.alloc (.cells #[.int .i64 0, .int .u32 0, .int .u32 0, .int .u32 0, .int .u64 0, .int .i32 0] 43)).cell? ⟨b, 0, none⟩ = some (.int .i32 0) := (h.alloc _).cell (j := 0) (by omega)
 have g0 := (h.alloc (.cells #[.int .i64 0, .int .u32 0, .int .u32 0, .int .u32 0, .int .u64 0, .int .i32 0] 43)).free 0
 have hz : (w.setCell ⟨b, 0, none⟩ (.int .i32 1)).heap.size = w.heap.size := by simp [World.setCell]
 have b1 : But (fun x => x = b ∨ vW.ownBlock = some x) w ((w.setCell ⟨b, 0, none⟩ (.int .i32 1)).alloc (.cells #[.int .i64 0, .int .u32 0, .int .u32 0, .int .u32 0, .int .u64 0, .int .i32 0] 43)) := ((But.set b 0 _).trans (But.below (below1' _ _))).mono fun x e => Or.inl e
 have r1 : RowIs ((w.setCell ⟨b, 0, none⟩ (.int .i32 1)).alloc (.cells #[.int .i64 0, .int .u32 0, .int .u32 0, .int .u32 0, .int .u64 0, .int .i32 0] 43)) w.heap.size 43 6 (opV o0) := RowIs.last (w := w.setCell ⟨b, 0, none⟩ (.int .i32 1)) (n := 6) (f := opV o0) (cs := #[.int .i64 0, .int .u32 0, .int .u32 0, .int .u32 0, .int .u64 0, .int .i32 0]) hz.symm rfl
 have B1 : BookIs ((w.setCell ⟨b, 0, none⟩ (.int .i32 1)).alloc (.cells #[.int .i64 0, .int .u32 0, .int .u32 0, .int .u32 0, .int .u64 0, .int .i32 0] 43)) b 1 cl ss top vW vK t ws := H.locked.below (below1' _ _)
 have HI := hidD (bIns_any b 1 cl ss top vW vK t ws at' ch _ B1 hby hcl hT)
 have H1 : Hid (But (fun x => x = b ∨ vW.ownBlock = some x) w ((w.setCell ⟨b, 0, none⟩ (.int .i32 1)).alloc (.cells #[.int .i64 0, .int .u32 0, .int .u32 0, .int .u32 0, .int .u64 0, .int .i32 0] 43)) ∧ RowIs ((w.setCell ⟨b, 0, none⟩ (.int .i32 1)).alloc (.cells #[.int .i64 0, .int .u32 0, .int .u32 0, .int .u32 0, .int .u64 0, .int .i32 0] 43)) w.heap.size 43 6 (opV o0) ∧ BookIs ((w.setCell ⟨b, 0, none⟩ (.int .i32 1)).alloc (.cells #[.int .i64 0, .int .u32 0, .int .u32 0, .int .u32 0, .int .u64 0, .int .i32 0] 43)) b 1 cl ss top vW vK t ws) := ⟨b1, r1, B1⟩
 have HX : Hid (∀ x, w.heap.size ≤ x → ¬ (x = b ∨ vW.ownBlock = some x)) := fun x hx e => by
  rcases e with e | e
  ·omega
  ·have := HVB.out x e; omega
 clear h H hby hT b1 r1 B1
 go_enter_defers Tryz.func45, Tryz.ntmps45
 go_wp2_with (first
  | (go_at_call 49; refine (lock_free muLib ⟨b, 0, none⟩ _ a0 g0).mono ?_; rintro e w' ⟨rfl, rfl⟩)
  | (go_at_call 87; refine HI.out.mono ?_; rintro e w2 ⟨LL, hLL, o2, n2, rfl, hq⟩; obtain ⟨R, hR, tp, v2, B2, e2, k2⟩ := hq.book H1.out.2.2; have R2 : RowIs w2 w.heap.size 43 6 (opV o0) := H1.out.2.1.but k2 (HX.out _ (Nat.le_refl _)); have H2 : Hid (TakeP b 1 cl ss vK vW R w w2) := ⟨tp, v2, B2, e2, H1.out.1.trans k2⟩; have HR := hidD (And.intro hLL hR); clear hLL hq hR B2 e2 k2)
  | (refine wpList_store_row rfl 43 (.tmp 6) (.tmp 21) rfl w.heap.size (rowOf 6 (opV o2)) rfl rfl _ _ R2 (by rw [rowOf_size]; exact infoOp6) (by rw [rowOf_size, rowOf_size]) (opV_one _) ?_))
 have R3 := R2.setRow (opV o2)
 have H3 := H2.out.putRow R2 (Nat.le_refl _) hbl HVB.out (rowOf 6 (opV o2))
 obtain ⟨tp3, v3, B3, -, -⟩ := H3
 refine leaves_cons (f := 50) (args := #[.pointer (some ⟨b, 0, none⟩)]) (by simp) (by simp [go_sem]) ?_
 refine (unlock_deferred muLib ⟨b, 0, none⟩ .returning _ (B3.row.cell (j := 0) (by omega)) (B3.row.free 0)).mono ?_
 rintro e u' w'' ⟨rfl, rfl, rfl⟩
 have R4 := R3.setOther (a := ⟨b, 0, none⟩) (fun e => by have : b = w.heap.size := e; omega) (.int .i32 0)
 exact ⟨_, results_cell_tmp Tryz.results45 _ _ w.heap.size 43 _ (0, 0) _ _ rfl rfl R4 Tryz.underlying43 rfl (by rw [rowOf_size]; exact infoOp6), LL, HR.out.1, o2, n2, R, HR.out.2, rfl, (H2.out.putRow R2 (Nat.le_refl _) hbl HVB.out (rowOf 6 (opV o2))).free⟩
def RDelP (b : Nat) (cl ss : Int) (vK vW : Value) (t : Tr) (ws : List Opn) (at' : Int) (w : World) (e : Ending) (w' : World) : Prop :=
 ∃ L, TextL t.list L ∧ ∃ o2 n R, delM cl t ws L at' = (o2, n, R) ∧ e = .returned (.tuple #[.agg #[.int .i64 o2.kd, .int .u32 o2.cl, .int .u32 o2.ck, .int .u32 o2.st, .int .u64 o2.rf, .int .i32 o2.ch], .int .i64 n]) ∧ TakeP b 0 cl ss vK vW R w w'
theorem rDel_any (b : Nat) (cl ss : Int) (top vW vK : Value) (t : Tr) (ws : List Opn) (at' : Int) (w : World) (H : BookIs w b 0 cl ss top vW vK t ws) (hby : ByKey ws) (hcl : 1 ≤ cl ∧ cl ≤ 1048575) (hT : Tellable t.list) :
  Calls Tryz.prog 79 #[.pointer (some ⟨b, 0, none⟩), .int .i64 at'] w fun e w' => RDelP b cl ss vK vW t ws at' w e w' := by
 have h := H.row
 have hbl := h.lt
 have HVB : Hid (∀ x, vW.ownBlock = some x → x < w.heap.size) := fun x hx => (World.ownsRow.lt H.own x hx).2
 have c0 : w.cell? ⟨b, 0, none⟩ = some (.int .i32 0) := h.cell (j := 0) (by omega)
 have f0 := h.free 0
 have a0 : (w.alloc (.cells #[.int .i64 0, .int .u32 0, .int .u32 0, .int .u32 0, .int .u64 0, .int .i32 0] 43)).cell? ⟨b, 0, none⟩ = some (.int .i32 0) := (h.alloc _).cell (j := 0) (by omega)
 have g0 := (h.alloc (.cells #[.int .i64 0, .int .u32 0, .int .u32 0, .int .u32 0, .int .u64 0, .int .i32 0] 43)).free 0
 have hz : (w.setCell ⟨b, 0, none⟩ (.int .i32 1)).heap.size = w.heap.size := by simp [World.setCell]
 have b1 : But (fun x => x = b ∨ vW.ownBlock = some x) w ((w.setCell ⟨b, 0, none⟩ (.int .i32 1)).alloc (.cells #[.int .i64 0, .int .u32 0, .int .u32 0, .int .u32 0, .int .u64 0, .int .i32 0] 43)) := ((But.set b 0 _).trans (But.below (below1' _ _))).mono fun x e => Or.inl e
 have r1 : RowIs ((w.setCell ⟨b, 0, none⟩ (.int .i32 1)).alloc (.cells #[.int .i64 0, .int .u32 0, .int .u32 0, .int .u32 0, .int .u64 0, .int .i32 0] 43)) w.heap.size 43 6 (opV o0) := RowIs.last (w := w.setCell ⟨b, 0, none⟩ (.int .i32 1)) (n := 6) (f := opV o0) (cs := #[.int .i64 0, .int .u32 0, .int .u32 0, .int .u32 0, .int .u64 0, .int .i32 0]) hz.symm rfl
 have B1 : BookIs ((w.setCell ⟨b, 0, none⟩ (.int .i32 1)).alloc (.cells #[.int .i64 0, .int .u32 0, .int .u32 0, .int .u32 0, .int .u64 0, .int .i32 0] 43)) b 1 cl ss top vW vK t ws := H.locked.below (below1' _ _)
 have HI := hidD (bDel_any b 1 cl ss top vW vK t ws at' _ B1 hby hcl hT)
 have H1 : Hid (But (fun x => x = b ∨ vW.ownBlock = some x) w ((w.setCell ⟨b, 0, none⟩ (.int .i32 1)).alloc (.cells #[.int .i64 0, .int .u32 0, .int .u32 0, .int .u32 0, .int .u64 0, .int .i32 0] 43)) ∧ RowIs ((w.setCell ⟨b, 0, none⟩ (.int .i32 1)).alloc (.cells #[.int .i64 0, .int .u32 0, .int .u32 0, .int .u32 0, .int .u64 0, .int .i32 0] 43)) w.heap.size 43 6 (opV o0) ∧ BookIs ((w.setCell ⟨b, 0, none⟩ (.int .i32 1)).alloc (.cells #[.int .i64 0, .int .u32 0, .int .u32 0, .int .u32 0, .int .u64 0, .int .i32 0] 43)) b 1 cl ss top vW vK t ws) := ⟨b1, r1, B1⟩
 have HX : Hid (∀ x, w.heap.size ≤ x → ¬ (x = b ∨ vW.ownBlock = some x)) := fun x hx e => by
  rcases e with e | e
  ·omega
  ·have := HVB.out x e; omega
 clear h H hby hT b1 r1 B1
 go_enter_defers Tryz.func79, Tryz.ntmps79
 go_wp2_with (first
  | (go_at_call 49; refine (lock_free muLib ⟨b, 0, none⟩ _ a0 g0).mono ?_; rintro e w' ⟨rfl, rfl⟩)
  | (go_at_call 135; refine HI.out.mono ?_; rintro e w2 ⟨LL, hLL, o2, n2, rfl, hq⟩; obtain ⟨R, hR, tp, v2, B2, e2, k2⟩ := hq.book H1.out.2.2; have R2 : RowIs w2 w.heap.size 43 6 (opV o0) := H1.out.2.1.but k2 (HX.out _ (Nat.le_refl _)); have H2 : Hid (TakeP b 1 cl ss vK vW R w w2) := ⟨tp, v2, B2, e2, H1.out.1.trans k2⟩; have HR := hidD (And.intro hLL hR); clear hLL hq hR B2 e2 k2)
  | (refine wpList_store_row rfl 43 (.tmp 4) (.tmp 18) rfl w.heap.size (rowOf 6 (opV o2)) rfl rfl _ _ R2 (by rw [rowOf_size]; exact infoOp6) (by rw [rowOf_size, rowOf_size]) (opV_one _) ?_))
 have R3 := R2.setRow (opV o2)
 have H3 := H2.out.putRow R2 (Nat.le_refl _) hbl HVB.out (rowOf 6 (opV o2))
 obtain ⟨tp3, v3, B3, -, -⟩ := H3
 refine leaves_cons (f := 50) (args := #[.pointer (some ⟨b, 0, none⟩)]) (by simp) (by simp [go_sem]) ?_
 refine (unlock_deferred muLib ⟨b, 0, none⟩ .returning _ (B3.row.cell (j := 0) (by omega)) (B3.row.free 0)).mono ?_
 rintro e u' w'' ⟨rfl, rfl, rfl⟩
 have R4 := R3.setOther (a := ⟨b, 0, none⟩) (fun e => by have : b = w.heap.size := e; omega) (.int .i32 0)
 exact ⟨_, results_cell_tmp Tryz.results79 _ _ w.heap.size 43 _ (0, 0) _ _ rfl rfl R4 Tryz.underlying43 rfl (by rw [rowOf_size]; exact infoOp6), LL, HR.out.1, o2, n2, R, HR.out.2, rfl, (H2.out.putRow R2 (Nat.le_refl _) hbl HVB.out (rowOf 6 (opV o2))).free⟩
theorem ref_L {w : World} {b : Nat} {cl : Int} {vL vW : Value} {ss : Int} {dn : Bool} {vK : Value} (h : RowIs w b 155 78 (ref78 cl vL vW ss dn vK)) (v : Value) : RowIs (w.setCell ⟨b, 73, none⟩ v) b 155 78 (ref78 cl v vW ss dn vK) := (h.set 73 v).congr fun j _ => by
 by_cases e : j = 73
 ·subst e; rfl
 ·rw [if_neg e]; simp only [ref78, if_neg e]
theorem ref_W {w : World} {b : Nat} {cl : Int} {vL vW : Value} {ss : Int} {dn : Bool} {vK : Value} (h : RowIs w b 155 78 (ref78 cl vL vW ss dn vK)) (v : Value) : RowIs (w.setCell ⟨b, 74, none⟩ v) b 155 78 (ref78 cl vL v ss dn vK) := (h.set 74 v).congr fun j _ => by
 by_cases e : j = 74
 ·subst e; rfl
 ·rw [if_neg e]; simp only [ref78, if_neg e]
theorem ref_apart {w : World} {b t k e size n B : Nat} {f : Nat → Value} {v : Value} {xs : List Value} (hr : RowIs w b t k f) (h : w.ownsRow B e size v n xs) (hne : e ≠ t) {g : Nat} (hg : v.ownBlock = some g) : g ≠ b := fun e1 => by
 subst e1
 rcases h.2 with ⟨e, _⟩ | ⟨g', cap, cur, e, _, e2, _⟩
 ·rw [e] at hg; cases hg
 ·rw [e] at hg
  cases hg
  unfold RowIs at hr
  rw [e2] at hr
  simp only [Option.some.injEq, Obj.cells.injEq] at hr
  exact hne hr.2.1
theorem RefIs.withL {w : World} {b : Nat} {cl : Int} {vL vW : Value} {ss : Int} {dn : Bool} {vK : Value} {os ws os2 : List Opn} {B : Nat} (h : RefIs w b cl vL vW ss dn vK os ws) {v : Value} (ho : OwnK w B v os2) : RefIs (w.setCell ⟨b, 73, none⟩ v) b cl v vW ss dn vK os2 ws :=
 ⟨ref_L h.row v, (own_frame ho fun g hg => heap_setCell_other _ _ _ _ (fun e => ref_apart h.row ho (by decide) hg e)).mono (Nat.zero_le _), own_frame h.hW fun g hg => heap_setCell_other _ _ _ _ (fun e => ref_apart h.row h.hW (by decide) hg e)⟩
theorem RefIs.withW {w : World} {b : Nat} {cl : Int} {vL vW : Value} {ss : Int} {dn : Bool} {vK : Value} {os ws ws2 : List Opn} {B : Nat} (h : RefIs w b cl vL vW ss dn vK os ws) {v : Value} (ho : OwnO w B v ws2) : RefIs (w.setCell ⟨b, 74, none⟩ v) b cl vL v ss dn vK os ws2 :=
 ⟨ref_W h.row v, own_frame h.hL fun g hg => heap_setCell_other _ _ _ _ (fun e => ref_apart h.row h.hL (by decide) hg e), (own_frame ho fun g hg => heap_setCell_other _ _ _ _ (fun e => ref_apart h.row ho (by decide) hg e)).mono (Nat.zero_le _)⟩
theorem ref_roots {w : World} {b : Nat} {cl : Int} {vL vW : Value} {ss : Int} {dn : Bool} {vK : Value} (h : RowIs w b 155 78 (ref78 cl vL vW ss dn vK)) : w.rangeAt b 0 (rowOf 72 fun j => .int .u32 (RV j)).toList := by
 intro j v hj
 have hl : j < 72 := by
  have := (List.getElem?_eq_some_iff.1 hj).1
  simpa [rowOf_size] using this
 have hr := (RowIs.new w 80 72 fun j => .int .u32 (RV j)).cell hl
 rw [cell_of_row _ _ _ _ _ _ (heap_alloc_new w _), ← Array.getElem?_toList] at hr
 rw [Nat.zero_add, h.cell (by omega)]
 rw [← hj, hr]
 simp only [ref78, if_pos hl]
structure RTS (x : Nat) (W : World) (b : Nat) (o : Opn) : Prop where
 row : ∃ cl vL vW ss dn vK, RowIs W b 155 78 (ref78 cl vL vW ss dn vK)
 box : RowIs W x 43 6 (opV o)
theorem RTS.kept {x : Nat} {W W2 : World} {b : Nat} {o : Opn} (h : RTS x W b o) (hb : Below W.heap.size W W2) : RTS x W2 b o :=
 ⟨by obtain ⟨a1, a2, a3, a4, a5, a6, r⟩ := h.row; exact ⟨a1, a2, a3, a4, a5, a6, r.below hb r.lt⟩, h.box.below hb h.box.lt⟩
theorem RTS.roots {x : Nat} {W : World} {b : Nat} {o : Opn} (h : RTS x W b o) : W.rangeAt b 0 (rowOf 72 fun j => .int .u32 (RV j)).toList := by
 obtain ⟨a1, a2, a3, a4, a5, a6, r⟩ := h.row
 exact ref_roots r
theorem RTS.put73 {x : Nat} {W : World} {b : Nat} {o : Opn} (h : RTS x W b o) (v : Value) : RTS x (W.setCell ⟨b, 73, none⟩ v) b o := by
 obtain ⟨a1, a2, a3, a4, a5, a6, r⟩ := h.row
 exact ⟨⟨a1, v, a3, a4, a5, a6, ref_L r v⟩, h.box.setOther (a := ⟨b, 73, none⟩) (fun e => absurd (RowIs.type_eq r ((show b = x from e) ▸ h.box)) (by decide)) v⟩
def RefP (b : Nat) (cl ss : Int) (dn : Bool) (vK vL vW : Value) (R : List Opn × List Opn) (w w' : World) : Prop := ∃ vL' vW', RefIs w' b cl vL' vW' ss dn vK R.1 R.2 ∧ (∀ x, vL'.ownBlock = some x → vL.ownBlock = some x ∨ w.heap.size ≤ x) ∧ (∀ x, vW'.ownBlock = some x → vW.ownBlock = some x ∨ w.heap.size ≤ x) ∧ But (fun x => x = b) w w'
theorem RefP.refl {w : World} {b : Nat} {cl : Int} {vL vW : Value} {ss : Int} {dn : Bool} {vK : Value} {os ws : List Opn} (h : RefIs w b cl vL vW ss dn vK os ws) : RefP b cl ss dn vK vL vW (os, ws) w w := ⟨vL, vW, h, fun _ => Or.inl, fun _ => Or.inl, But.refl _ _⟩
theorem RefP.below {w w1 w' : World} {b : Nat} {cl : Int} {vL vW : Value} {ss : Int} {dn : Bool} {vK : Value} {R : List Opn × List Opn} (h : RefP b cl ss dn vK vL vW R w w1) (hb : Below w1.heap.size w1 w') : RefP b cl ss dn vK vL vW R w w' := by
 obtain ⟨l, v, h1, h2, h3, h4⟩ := h
 exact ⟨l, v, h1.below hb, h2, h3, h4.trans (But.below hb)⟩
theorem RefP.of {w w1 w' : World} {b : Nat} {cl : Int} {vL vW : Value} {ss : Int} {dn : Bool} {vK : Value} {R : List Opn × List Opn} (hb : Below w.heap.size w w1) (h : RefP b cl ss dn vK vL vW R w1 w') : RefP b cl ss dn vK vL vW R w w' := by
 obtain ⟨l, v, h1, h2, h3, h4⟩ := h
 exact ⟨l, v, h1, fun x e => (h2 x e).via id fun k => Nat.le_trans hb.size k, fun x e => (h3 x e).via id fun k => Nat.le_trans hb.size k, (But.below hb).trans h4⟩
theorem lessKey_fIdx {ws : List Opn} (hs : ByKey ws) {k : Int} : (fIdx ws k < 0 → lessKey k ws = ws) ∧ ∀ i : Nat, fIdx ws k = i → i < ws.length ∧ lessKey k ws = ws.eraseIdx i := by
 refine ⟨fun h => List.filter_eq_self.2 fun x hx => ?_, fun i e => ?_⟩
 ·have : ¬ 0 ≤ fIdx ws k := by omega
  rw [fIdx_some] at this
  exact decide_eq_true fun e => this ⟨x, hx, e⟩
 ·obtain ⟨j, e1, hj, e2⟩ := fIdx_get (os := ws) (k := k) (by omega)
  have : j = i := by omega
  subst this
  refine ⟨hj, ?_⟩
  have e0 : ws = ws.take j ++ ws[j] :: ws.drop (j + 1) := by rw [List.getElem_cons_drop, List.take_append_drop]
  rw [List.eraseIdx_eq_take_drop_succ]
  have hne : ∀ m (hm : m < ws.length), m ≠ j → ws[m].key ≠ k := fun m hm hmj e => by
   rcases Nat.lt_or_gt_of_ne hmj with q | q
   ·have := List.pairwise_iff_getElem.1 hs m j hm hj q; omega
   ·have := List.pairwise_iff_getElem.1 hs j m hj hm q; omega
  unfold lessKey
  conv => lhs; rw [e0]
  rw [List.filter_append, List.filter_cons_of_neg (by simpa using e2), List.filter_eq_self.2 fun x hx => ?_, List.filter_eq_self.2 fun x hx => ?_]
  ·obtain ⟨m, hm, rfl⟩ := List.mem_iff_getElem.1 hx
   rw [List.length_drop] at hm
   rw [List.getElem_drop]
   exact decide_eq_true (hne _ (by omega) (by omega))
  ·obtain ⟨m, hm, rfl⟩ := List.mem_iff_getElem.1 hx
   rw [List.length_take] at hm
   rw [List.getElem_take]
   exact decide_eq_true (hne _ (by omega) (by omega))
theorem new_cells (f : Nat → Value) (c : Value) : ((Array.foldl (fun cs x => cs.setIfInBounds x.snd x.fst) Tryz.zeroCells155 (rowOf 72 f).zipIdx 0 72).setIfInBounds 72 c) = rowOf 78 (fun n => if n < 72 then f n else if n = 72 then c else if n = 73 then .slice none 0 0 else if n = 74 then .slice none 0 0 else if n = 75 then .int .u32 0 else if n = 76 then .bool false else .slice none 0 0) := by kernel_rfl
def RefNewP (cl : Int) (w : World) (e : Ending) (w' : World) : Prop := if 1 ≤ cl ∧ cl ≤ 1048575 then ∃ b, e = .returned (.tuple #[.pointer (some ⟨b, 0, none⟩), .int .i64 0]) ∧ w.heap.size ≤ b ∧ RefIs w' b cl (.slice none 0 0) (.slice none 0 0) 0 false (.slice none 0 0) [] [] else e = .returned (.tuple #[.pointer none, .int .i64 1])
theorem refNew_any (cl : Int) (w : World) : Calls Tryz.prog 130 #[.agg (rowOf 72 fun j => .int .u32 (RV j)), .int .u32 cl] w fun e w' => RefNewP cl w e w' ∧ Below w.heap.size w w' := by
 have R0 : RowIs (w.alloc (.cells (rowOf 72 fun j => .int .u32 (RV j)) 80)) w.heap.size 80 72 (fun j => .int .u32 (RV j)) := RowIs.new w 80 72 _
 have HR := hid2 (range72 R0)
 clear R0
 rcases Int.lt_or_le cl 1 with h1 | h1
 ·go_enter Tryz.func130, Tryz.ntmps130
  go_wp2_with fail
  go_ret2
  exact ⟨by unfold RefNewP; rw [if_neg (by omega)]; rfl, below1' _ _⟩
 ·rcases Int.lt_or_le 1048575 cl with h2 | h2
  ·go_enter Tryz.func130, Tryz.ntmps130
   go_wp2_with fail
   go_ret2
   exact ⟨by unfold RefNewP; rw [if_neg (by omega)]; rfl, below1' _ _⟩
  ·go_enter Tryz.func130, Tryz.ntmps130
   go_wp2_with (refine wpList_load_mid rfl 80 (.tmp 2) rfl w.heap.size 0 rfl _ _ HR.out Tryz.underlying80 rfl (by rw [Array.length_toList, rowOf_size]; exact info30) ?_; simp only [Array.toArray_toList])
   go_ret2
   refine ⟨?_, (below1' _ _).trans ((below1' _ _).mono (by simp))⟩
   unfold RefNewP
   rw [if_pos ⟨h1, h2⟩]
   refine ⟨w.heap.size + 1, rfl, by omega, ⟨?_, ⟨rfl, Or.inl ⟨rfl, rfl⟩⟩, ⟨rfl, Or.inl ⟨rfl, rfl⟩⟩⟩⟩
   rw [new_cells]
   exact RowIs.last (by simp) rfl
end Go.Proofs.YtgccjefbedpmpaaGreatDoor

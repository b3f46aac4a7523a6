import Derived.Test.YtgccjefbedpmpaaGreatDoorGRule
import Derived.Test.YtgccjefbedpmpaaGreatDoorGRightOp
namespace Go.Proofs.YtgccjefbedpmpaaGreatDoor
open Go.RowKit
/-- The tree of a set: its operations, each with its rank. -/
structure Tr where
 top:Option (Opn×Int×Tr×Tr)
abbrev Tr.nil:Tr:=⟨none⟩
abbrev Tr.node (o:Opn) (k:Int) (l r:Tr):Tr:=⟨some (o,k,l,r)⟩
theorem Tr.ind {motive:Tr→Prop} (nil:motive .nil) (node:∀ o k l r,motive l→motive r→motive (.node o k l r)):∀ t,motive t
 | ⟨none⟩=>nil
 | ⟨some (o,k,l,r)⟩=>node o k l r (Tr.ind nil node l) (Tr.ind nil node r)
theorem Tr.cs {motive:Tr→Prop} (nil:motive .nil) (node:∀ o k l r,motive (.node o k l r)) (t:Tr):motive t:=Tr.ind nil (fun o k l r _ _=>node o k l r) t
def Tr.size : Tr → Nat
  | ⟨none⟩ => 0
  | ⟨some (_,_,l,r)⟩ => l.size + 1 + r.size
def Tr.list : Tr → List Opn
  | ⟨none⟩ => []
  | ⟨some (o,_,l,r)⟩ => l.list ++ o :: r.list
theorem Tr.list_len (t : Tr) : t.list.length = t.size := by
  induction t using Tr.ind with
  | nil => rfl
  | node o rk l r hl hr => simp [Tr.list, Tr.size, hl, hr]; omega
/-- The cells of a node. -/
def nd9 (o : Opn) (rk : Int) (vl vr : Value) : Nat → Value
  | 0 => .int .i64 o.kd
  | 1 => .int .u32 o.cl
  | 2 => .int .u32 o.ck
  | 3 => .int .u32 o.st
  | 4 => .int .u64 o.rf
  | 5 => .int .i32 o.ch
  | 6 => .int .u64 rk
  | 7 => vl
  | _ => vr
/-- A tree lies in memory. -/
def IsTr (w : World) : Value → Tr → Prop
  | v, ⟨none⟩ => v = .pointer none
  | v, ⟨some (o,rk,l,r)⟩ => ∃ b vl vr, v = .pointer (some ⟨b, 0, none⟩) ∧ RowIs w b 318 9 (nd9 o rk vl vr) ∧ IsTr w vl l ∧ IsTr w vr r
theorem IsTr.below {w w' : World} (hb : Below w.heap.size w w') : ∀ {t : Tr} {v : Value}, IsTr w v t → IsTr w' v t
  | ⟨none⟩, _, h => h
  | ⟨some (_,_,_,_)⟩, _, ⟨b, vl, vr, e, hr, h1, h2⟩ => ⟨b, vl, vr, e, hr.below hb hr.lt, IsTr.below hb h1, IsTr.below hb h2⟩
/-- A node of a tree, its cells. -/
structure NodeIs (w W : World) (b : Nat) (o : Opn) (rk : Int) (vl vr : Value) : Prop where
  below : Below w.heap.size w W
  row : RowIs W b 318 9 (nd9 o rk vl vr)
theorem NodeIs.kept {w W W2 : World} {b : Nat} {o : Opn} {rk : Int} {vl vr : Value} (h : NodeIs w W b o rk vl vr) (hb : Below W.heap.size W W2) : NodeIs w W2 b o rk vl vr := ⟨h.below.trans (hb.mono h.below.size), h.row.below hb h.row.lt⟩
theorem NodeIs.drew {w W : World} {b : Nat} {o : Opn} {rk : Int} {vl vr : Value} (h : NodeIs w W b o rk vl vr) : NodeIs w W.drew b o rk vl vr := ⟨h.below.drew, h.row.drew⟩
theorem NodeIs.c7 {w W : World} {b : Nat} {o : Opn} {rk : Int} {vl vr : Value} (h : NodeIs w W b o rk vl vr) : W.cell? ⟨b, 7, none⟩ = some vl := h.row.cell (j := 7) (by omega)
theorem NodeIs.c8 {w W : World} {b : Nat} {o : Opn} {rk : Int} {vl vr : Value} (h : NodeIs w W b o rk vl vr) : W.cell? ⟨b, 8, none⟩ = some vr := h.row.cell (j := 8) (by omega)
theorem NodeIs.c6 {w W : World} {b : Nat} {o : Opn} {rk : Int} {vl vr : Value} (h : NodeIs w W b o rk vl vr) : W.cell? ⟨b, 6, none⟩ = some (.int .u64 rk) := h.row.cell (j := 6) (by omega)
theorem NodeIs.op {w W : World} {b : Nat} {o : Opn} {rk : Int} {vl vr : Value} (h : NodeIs w W b o rk vl vr) : W.cell? ⟨b, 0, none⟩ = some (.int .i64 o.kd) ∧ W.cell? ⟨b, 1, none⟩ = some (.int .u32 o.cl) ∧ W.cell? ⟨b, 2, none⟩ = some (.int .u32 o.ck) ∧ W.cell? ⟨b, 3, none⟩ = some (.int .u32 o.st) ∧ W.cell? ⟨b, 4, none⟩ = some (.int .u64 o.rf) ∧ W.cell? ⟨b, 5, none⟩ = some (.int .i32 o.ch) :=
  ⟨h.row.cell (j := 0) (by omega), h.row.cell (j := 1) (by omega), h.row.cell (j := 2) (by omega), h.row.cell (j := 3) (by omega), h.row.cell (j := 4) (by omega), h.row.cell (j := 5) (by omega)⟩
set_option maxRecDepth 100000 in
theorem count_any (t : Tr) : ∀ (v : Value) (w : World), IsTr w v t → t.size ≤ 9223372036854775807 → Calls Tryz.prog 253 #[v] w fun e w' => e = .returned (.int .i64 t.size) ∧ Below w.heap.size w w' := by
  induction t using Tr.ind with
  | nil =>
    rintro v w rfl -
    go_enter Tryz.func253, Tryz.ntmps253
    go_wp2
    go_ret
    exact ⟨rfl, Below.refl _ _⟩
  | node o rk l r ihl ihr =>
    rintro v w ⟨b, vl, vr, rfl, hrow, hl, hr⟩ hs
    have hs' : l.size + 1 + r.size ≤ 9223372036854775807 := hs
    have HL : Hid (∀ W, Below w.heap.size w W → Calls Tryz.prog 253 #[vl] W fun e w' => e = .returned (.int .i64 l.size) ∧ Below W.heap.size W w') := fun W hW => ihl vl W (hl.below hW) (by omega)
    have HR : Hid (∀ W, Below w.heap.size w W → Calls Tryz.prog 253 #[vr] W fun e w' => e = .returned (.int .i64 r.size) ∧ Below W.heap.size W w') := fun W hW => ihr vr W (hr.below hW) (by omega)
    have hN : NodeIs w w b o rk vl vr := ⟨Below.refl _ _, hrow⟩
    clear ihl ihr hl hr hrow
    have e1 : IntKind.i64.wrap ((l.size : Int) + 1) = (l.size : Int) + 1 := by rw [IntKind.wrap_i64]; omega
    have e2 : IntKind.i64.wrap ((l.size : Int) + 1 + (r.size : Int)) = (l.size : Int) + 1 + (r.size : Int) := by rw [IntKind.wrap_i64]; omega
    go_enter Tryz.func253, Tryz.ntmps253
    go_wp2
    refine wp_region_held_drew (S := fun w' => NodeIs w w' b o rk vl vr) (by kernel_rfl) hN.drew (fun hHeld => ?_)
    generalize World.drew _ = wD at hHeld ⊢
    refine wpAnyH_take (i := 0) (oi := { dst := some 5, op := _, type := _, pos := _, after := _, guard := _ }) rfl (by kernel_rfl) (by kernel_rfl) (by kernel_rfl) (fun _ _ _ h => h) (Or.inl ⟨by rfl, fun w _ => by go_simp; rfl⟩) hHeld ?_
    simp only [Act.put, List.setIfInBounds_toArray, List.set_cons_zero, List.set_cons_succ]
    refine wpAnyH_take (i := 1) (oi := { dst := some 6, op := _, type := _, pos := _, after := _, guard := _ }) rfl (by kernel_rfl) (by kernel_rfl) (by kernel_rfl) (fun _ _ _ h => h) (Or.inl ⟨by rfl, fun w _ => by go_simp; rfl⟩) hHeld ?_
    simp only [Act.put, List.setIfInBounds_toArray, List.set_cons_zero, List.set_cons_succ]
    refine wpAnyH_take (i := 2) (oi := { dst := some 7, op := _, type := _, pos := _, after := _, guard := _ }) rfl (by kernel_rfl) (by kernel_rfl) (by kernel_rfl) (fun _ _ _ h => h) (Or.inl ⟨by rfl, fun w _ => by go_simp; rfl⟩) hHeld ?_
    simp only [Act.put, List.setIfInBounds_toArray, List.set_cons_zero, List.set_cons_succ]
    refine wpAnyH_take (i := 3) (oi := { dst := some 8, op := _, type := _, pos := _, after := _, guard := _ }) rfl (by kernel_rfl) (by kernel_rfl) (by kernel_rfl) (fun _ _ _ h => h) (Or.inl ⟨by rfl, fun w hS => by have q := hS.c7; go_simp; rfl⟩) hHeld ?_
    simp only [Act.put, List.setIfInBounds_toArray, List.set_cons_zero, List.set_cons_succ]
    refine wpAnyH_take (i := 6) (oi := { dst := some 11, op := _, type := _, pos := _, after := _, guard := _ }) rfl (by kernel_rfl) (by kernel_rfl) (by kernel_rfl) (fun _ _ _ h => h) (Or.inl ⟨by rfl, fun w _ => by go_simp; rfl⟩) hHeld ?_
    simp only [Act.put, List.setIfInBounds_toArray, List.set_cons_zero, List.set_cons_succ]
    refine wpAnyH_take (i := 7) (oi := { dst := some 12, op := _, type := _, pos := _, after := _, guard := _ }) rfl (by kernel_rfl) (by kernel_rfl) (by kernel_rfl) (fun _ _ _ h => h) (Or.inl ⟨by rfl, fun w _ => by go_simp; rfl⟩) hHeld ?_
    simp only [Act.put, List.setIfInBounds_toArray, List.set_cons_zero, List.set_cons_succ]
    refine wpAnyH_take (i := 8) (oi := { dst := some 13, op := _, type := _, pos := _, after := _, guard := _ }) rfl (by kernel_rfl) (by kernel_rfl) (by kernel_rfl) (fun _ _ _ h => h) (Or.inl ⟨by rfl, fun w _ => by go_simp; rfl⟩) hHeld ?_
    simp only [Act.put, List.setIfInBounds_toArray, List.set_cons_zero, List.set_cons_succ]
    refine wpAnyH_take (i := 9) (oi := { dst := some 14, op := _, type := _, pos := _, after := _, guard := _ }) rfl (by kernel_rfl) (by kernel_rfl) (by kernel_rfl) (fun _ _ _ h => h) (Or.inl ⟨by rfl, fun w hS => by have q := hS.c8; go_simp; rfl⟩) hHeld ?_
    simp only [Act.put, List.setIfInBounds_toArray, List.set_cons_zero, List.set_cons_succ]
    refine wpAnyH_ready (rs := [4]) (by kernel_rfl) (by simp) (AllReadyH.cons (o := { dst := some 9, op := _, type := _, pos := _, after := _, guard := _ }) rfl (fun K hK => ?_) AllReadyH.nil)
    go_simp
    refine (HL.out _ hHeld.below).mono ?_
    rintro e w1 ⟨rfl, hb1⟩
    refine hK.out _ _ (hHeld.kept hb1) (fun hHeld => ?_)
    clear hK K hb1
    refine wpAnyH_take (i := 5) (oi := { dst := some 10, op := _, type := _, pos := _, after := _, guard := _ }) rfl (by kernel_rfl) (by kernel_rfl) (by kernel_rfl) (fun _ _ _ h => h) (Or.inl ⟨by rfl, fun w _ => by go_simp; rfl⟩) hHeld ?_
    simp only [Act.put, List.setIfInBounds_toArray, List.set_cons_zero, List.set_cons_succ]
    refine wpAnyH_ready (rs := [10]) (by kernel_rfl) (by simp) (AllReadyH.cons (o := { dst := some 15, op := _, type := _, pos := _, after := _, guard := _ }) rfl (fun K hK => ?_) AllReadyH.nil)
    go_simp
    refine (HR.out _ hHeld.below).mono ?_
    rintro e w2 ⟨rfl, hb2⟩
    refine hK.out _ _ (hHeld.kept hb2) (fun hHeld => ?_)
    clear hK K hb2
    refine wpAnyH_take (i := 11) (oi := { dst := some 16, op := _, type := _, pos := _, after := _, guard := _ }) rfl (by kernel_rfl) (by kernel_rfl) (by kernel_rfl) (fun _ _ _ h => h) (Or.inl ⟨by rfl, fun w _ => by go_simp; rfl⟩) hHeld ?_
    simp only [Act.put, List.setIfInBounds_toArray, List.set_cons_zero, List.set_cons_succ]
    refine wpAnyH_ready (rs := [12]) (by kernel_rfl) (by simp) (AllReadyH.cons (o := { dst := some 2, op := _, type := _, pos := _, after := _, guard := _ }) rfl (fun K hK => ?_) AllReadyH.nil)
    go_simp
    refine hK.out _ _ hHeld (fun hHeld => ?_)
    clear hK K
    refine wpAnyH_done (by kernel_rfl) ?_ _
    go_wp2_with fail
    go_ret
    exact ⟨rfl, hHeld.below⟩
end Go.Proofs.YtgccjefbedpmpaaGreatDoor
namespace Go.Proofs.YtgccjefbedpmpaaGreatDoor
open Go.RowKit
theorem mKey (a b c d e f : Int) (w : World) : (Go.method 566 229 (.agg #[.int .i64 a, .int .u32 b, .int .u32 c, .int .u32 d, .int .u64 e, .int .i32 f]) "Key").run Tryz.prog w = .ok (365, .agg #[.int .i64 a, .int .u32 b, .int .u32 c, .int .u32 d, .int .u64 e, .int .i32 f]) w := by kernel_rfl
/-- An operation's client and clock are of their types. -/
def KeyT (o : Opn) : Prop := (0 ≤ o.cl ∧ o.cl < 4294967296) ∧ (0 ≤ o.ck ∧ o.ck < 4294967296)
theorem eKey_any (o : Opn) (h : KeyT o) (w : World) : Calls Tryz.prog 365 #[.agg #[.int .i64 o.kd, .int .u32 o.cl, .int .u32 o.ck, .int .u32 o.st, .int .u64 o.rf, .int .i32 o.ch]] w fun e w' => e = .returned (.int .u64 o.key) ∧ Below w.heap.size w w' := by
  have HK : Hid (∀ W, Calls Tryz.prog 93 #[.agg #[.int .i64 o.kd, .int .u32 o.cl, .int .u32 o.ck, .int .u32 o.st, .int .u64 o.rf, .int .i32 o.ch]] W fun e w' => e = .returned (.int .u64 (o.cl * 1048576 + o.ck)) ∧ Below W.heap.size W w') := pKeyOf_any o.kd o.cl o.ck o.st o.rf o.ch h.1 h.2
  go_enter Tryz.func365, Tryz.ntmps365
  go_wp2_with (go_at_call 93; refine (HK.out _).mono ?_; rintro e w1 ⟨rfl, hb1⟩)
  go_ret
  exact ⟨rfl, ((Below.refl _ _).alloc (Nat.le_refl _) _).trans (hb1.mono (by simp))⟩
set_option maxRecDepth 100000 in
theorem over_any (b : Nat) (o : Opn) (rk : Int) (vl vr p q : Value) (hp : ∃ a, p = .pointer a) (hq : ∃ a, q = .pointer a) (w : World) (hrow : RowIs w b 318 9 (nd9 o rk vl vr)) :
    Calls Tryz.prog 316 #[.pointer (some ⟨b, 0, none⟩), p, q] w fun e w' => (∃ g, e = .returned (.pointer (some ⟨g, 0, none⟩)) ∧ RowIs w' g 318 9 (nd9 o rk p q)) ∧ Below w.heap.size w w' := by
  have hN : NodeIs w w b o rk vl vr := ⟨Below.refl _ _, hrow⟩
  obtain ⟨pa, rfl⟩ := hp
  obtain ⟨qa, rfl⟩ := hq
  clear hrow
  go_enter Tryz.func316, Tryz.ntmps316
  go_wp2
  refine wp_region_held_drew (S := fun w' => NodeIs w w' b o rk vl vr) (by kernel_rfl) hN.drew (fun hHeld => ?_)
  generalize World.drew _ = wD at hHeld ⊢
  refine wpAnyH_take (i := 0) (oi := { dst := some 7, op := _, type := _, pos := _, after := _, guard := _ }) rfl (by kernel_rfl) (by kernel_rfl) (by kernel_rfl) (fun _ _ _ h => h) (Or.inl ⟨by rfl, fun w _ => by go_simp; rfl⟩) hHeld ?_
  simp only [Act.put, List.setIfInBounds_toArray, List.set_cons_zero, List.set_cons_succ]
  refine wpAnyH_take (i := 1) (oi := { dst := some 8, op := _, type := _, pos := _, after := _, guard := _ }) rfl (by kernel_rfl) (by kernel_rfl) (by kernel_rfl) (fun _ _ _ h => h) (Or.inl ⟨by rfl, fun w _ => by go_simp; rfl⟩) hHeld ?_
  simp only [Act.put, List.setIfInBounds_toArray, List.set_cons_zero, List.set_cons_succ]
  refine wpAnyH_take (i := 2) (oi := { dst := some 9, op := _, type := _, pos := _, after := _, guard := _ }) rfl (by kernel_rfl) (by kernel_rfl) (by kernel_rfl) (fun _ _ _ h => h) (Or.inl ⟨by rfl, fun w _ => by go_simp; rfl⟩) hHeld ?_
  simp only [Act.put, List.setIfInBounds_toArray, List.set_cons_zero, List.set_cons_succ]
  refine wpAnyH_take (i := 3) (oi := { dst := some 10, op := _, type := _, pos := _, after := _, guard := _ }) rfl (by kernel_rfl) (by kernel_rfl) (by kernel_rfl) (fun _ _ _ h => h) (Or.inl ⟨by rfl, fun w hS => by obtain ⟨a0, a1, a2, a3, a4, a5⟩ := NodeIs.op hS; go_simp; rfl⟩) hHeld ?_
  simp only [Act.put, List.setIfInBounds_toArray, List.set_cons_zero, List.set_cons_succ]
  refine wpAnyH_take (i := 4) (oi := { dst := some 11, op := _, type := _, pos := _, after := _, guard := _ }) rfl (by kernel_rfl) (by kernel_rfl) (by kernel_rfl) (fun _ _ _ h => h) (Or.inl ⟨by rfl, fun w _ => by go_simp; rfl⟩) hHeld ?_
  simp only [Act.put, List.setIfInBounds_toArray, List.set_cons_zero, List.set_cons_succ]
  refine wpAnyH_take (i := 5) (oi := { dst := some 12, op := _, type := _, pos := _, after := _, guard := _ }) rfl (by kernel_rfl) (by kernel_rfl) (by kernel_rfl) (fun _ _ _ h => h) (Or.inl ⟨by rfl, fun w _ => by go_simp; rfl⟩) hHeld ?_
  simp only [Act.put, List.setIfInBounds_toArray, List.set_cons_zero, List.set_cons_succ]
  refine wpAnyH_take (i := 6) (oi := { dst := some 13, op := _, type := _, pos := _, after := _, guard := _ }) rfl (by kernel_rfl) (by kernel_rfl) (by kernel_rfl) (fun _ _ _ h => h) (Or.inl ⟨by rfl, fun w _ => by go_simp; rfl⟩) hHeld ?_
  simp only [Act.put, List.setIfInBounds_toArray, List.set_cons_zero, List.set_cons_succ]
  refine wpAnyH_take (i := 7) (oi := { dst := some 14, op := _, type := _, pos := _, after := _, guard := _ }) rfl (by kernel_rfl) (by kernel_rfl) (by kernel_rfl) (fun _ _ _ h => h) (Or.inl ⟨by rfl, fun w hS => by have q := NodeIs.c6 hS; go_simp; rfl⟩) hHeld ?_
  simp only [Act.put, List.setIfInBounds_toArray, List.set_cons_zero, List.set_cons_succ]
  refine wpAnyH_take (i := 8) (oi := { dst := some 15, op := _, type := _, pos := _, after := _, guard := _ }) rfl (by kernel_rfl) (by kernel_rfl) (by kernel_rfl) (fun _ _ _ h => h) (Or.inl ⟨by rfl, fun w _ => by go_simp; rfl⟩) hHeld ?_
  simp only [Act.put, List.setIfInBounds_toArray, List.set_cons_zero, List.set_cons_succ]
  refine wpAnyH_take (i := 9) (oi := { dst := some 16, op := _, type := _, pos := _, after := _, guard := _ }) rfl (by kernel_rfl) (by kernel_rfl) (by kernel_rfl) (fun _ _ _ h => h) (Or.inl ⟨by rfl, fun w _ => by go_simp; rfl⟩) hHeld ?_
  simp only [Act.put, List.setIfInBounds_toArray, List.set_cons_zero, List.set_cons_succ]
  refine wpAnyH_take (i := 10) (oi := { dst := some 17, op := _, type := _, pos := _, after := _, guard := _ }) rfl (by kernel_rfl) (by kernel_rfl) (by kernel_rfl) (fun _ _ _ h => h) (Or.inl ⟨by rfl, fun w _ => by go_simp; rfl⟩) hHeld ?_
  simp only [Act.put, List.setIfInBounds_toArray, List.set_cons_zero, List.set_cons_succ]
  refine wpAnyH_ready (rs := [11]) (by kernel_rfl) (by simp) (AllReadyH.cons (o := { dst := some 18, op := _, type := _, pos := _, after := _, guard := _ }) rfl (fun K hK => ?_) AllReadyH.nil)
  go_simp
  have R : RowIs (wD.alloc (.cells #[.int .i64 o.kd, .int .u32 o.cl, .int .u32 o.ck, .int .u32 o.st, .int .u64 o.rf, .int .i32 o.ch, .int .u64 rk, .pointer pa, .pointer qa] 318)) wD.heap.size 318 9 (nd9 o rk (.pointer pa) (.pointer qa)) := RowIs.last rfl rfl
  refine hK.out _ _ (hHeld.kept (below1' _ _)) (fun hHeld => ?_)
  clear hK K
  refine wpAnyH_ready (rs := [12]) (by kernel_rfl) (by simp) (AllReadyH.cons (o := { dst := some 6, op := _, type := _, pos := _, after := _, guard := _ }) rfl (fun K hK => ?_) AllReadyH.nil)
  go_simp
  refine hK.out _ _ hHeld (fun hHeld => ?_)
  clear hK K
  refine wpAnyH_done (by kernel_rfl) ?_ _
  go_wp2_with fail
  go_ret
  exact ⟨⟨_, rfl, R⟩, hHeld.below⟩
set_option maxRecDepth 100000 in
theorem isAbove_any (b1 b2 : Nat) (o1 o2 : Opn) (r1 r2 : Int) (l1 q1 l2 q2 : Value) (h1 : KeyT o1) (h2 : KeyT o2) (w : World) (n1 : RowIs w b1 318 9 (nd9 o1 r1 l1 q1)) (n2 : RowIs w b2 318 9 (nd9 o2 r2 l2 q2)) :
    Calls Tryz.prog 315 #[.pointer (some ⟨b1, 0, none⟩), .pointer (some ⟨b2, 0, none⟩)] w fun e w' => e = .returned (.bool (if r1 = r2 then decide (o2.key < o1.key) else decide (r2 < r1))) ∧ Below w.heap.size w w' := by
  have hN : NodeIs w w b1 o1 r1 l1 q1 ∧ NodeIs w w b2 o2 r2 l2 q2 := ⟨⟨Below.refl _ _, n1⟩, ⟨Below.refl _ _, n2⟩⟩
  have HK1 : Hid (∀ W, Calls Tryz.prog 365 #[.agg #[.int .i64 o1.kd, .int .u32 o1.cl, .int .u32 o1.ck, .int .u32 o1.st, .int .u64 o1.rf, .int .i32 o1.ch]] W fun e w' => e = .returned (.int .u64 o1.key) ∧ Below W.heap.size W w') := eKey_any o1 h1
  have HK2 : Hid (∀ W, Calls Tryz.prog 365 #[.agg #[.int .i64 o2.kd, .int .u32 o2.cl, .int .u32 o2.ck, .int .u32 o2.st, .int .u64 o2.rf, .int .i32 o2.ch]] W fun e w' => e = .returned (.int .u64 o2.key) ∧ Below W.heap.size W w') := eKey_any o2 h2
  have hd : ∀ {W}, NodeIs w W b1 o1 r1 l1 q1 ∧ NodeIs w W b2 o2 r2 l2 q2 → NodeIs w W.drew b1 o1 r1 l1 q1 ∧ NodeIs w W.drew b2 o2 r2 l2 q2 := fun h => ⟨h.1.drew, h.2.drew⟩
  have HD : Hid (∀ W, NodeIs w W b1 o1 r1 l1 q1 ∧ NodeIs w W b2 o2 r2 l2 q2 → NodeIs w W.drew b1 o1 r1 l1 q1 ∧ NodeIs w W.drew b2 o2 r2 l2 q2) := fun _ h => hd h
  have HN : Hid (NodeIs w w b1 o1 r1 l1 q1 ∧ NodeIs w w b2 o2 r2 l2 q2) := hN
  clear hN hd n1 n2
  by_cases hr : r1 = r2
  · subst hr
    rw [if_pos rfl]
    go_enter Tryz.func315, Tryz.ntmps315
    go_wp2
    refine wp_region_held_drew (S := fun w' => NodeIs w w' b1 o1 r1 l1 q1 ∧ NodeIs w w' b2 o2 r1 l2 q2) (by kernel_rfl) (HD.out _ HN.out) (fun hHeld => ?_)
    generalize World.drew _ = wD at hHeld ⊢
    refine wpAnyH_take (i := 0) (oi := { dst := some 5, op := _, type := _, pos := _, after := _, guard := _ }) rfl (by kernel_rfl) (by kernel_rfl) (by kernel_rfl) (fun _ _ _ h => h) (Or.inl ⟨by rfl, fun w _ => by go_simp; rfl⟩) hHeld ?_
    simp only [Act.put, List.setIfInBounds_toArray, List.set_cons_zero, List.set_cons_succ]
    refine wpAnyH_take (i := 1) (oi := { dst := some 6, op := _, type := _, pos := _, after := _, guard := _ }) rfl (by kernel_rfl) (by kernel_rfl) (by kernel_rfl) (fun _ _ _ h => h) (Or.inl ⟨by rfl, fun w _ => by go_simp; rfl⟩) hHeld ?_
    simp only [Act.put, List.setIfInBounds_toArray, List.set_cons_zero, List.set_cons_succ]
    refine wpAnyH_take (i := 2) (oi := { dst := some 7, op := _, type := _, pos := _, after := _, guard := _ }) rfl (by kernel_rfl) (by kernel_rfl) (by kernel_rfl) (fun _ _ _ h => h) (Or.inl ⟨by rfl, fun w _ => by go_simp; rfl⟩) hHeld ?_
    simp only [Act.put, List.setIfInBounds_toArray, List.set_cons_zero, List.set_cons_succ]
    refine wpAnyH_take (i := 3) (oi := { dst := some 8, op := _, type := _, pos := _, after := _, guard := _ }) rfl (by kernel_rfl) (by kernel_rfl) (by kernel_rfl) (fun _ _ _ h => h) (Or.inl ⟨by rfl, fun w hS => by have q := NodeIs.c6 hS.1; go_simp; rfl⟩) hHeld ?_
    simp only [Act.put, List.setIfInBounds_toArray, List.set_cons_zero, List.set_cons_succ]
    refine wpAnyH_take (i := 4) (oi := { dst := some 9, op := _, type := _, pos := _, after := _, guard := _ }) rfl (by kernel_rfl) (by kernel_rfl) (by kernel_rfl) (fun _ _ _ h => h) (Or.inl ⟨by rfl, fun w _ => by go_simp; rfl⟩) hHeld ?_
    simp only [Act.put, List.setIfInBounds_toArray, List.set_cons_zero, List.set_cons_succ]
    refine wpAnyH_take (i := 5) (oi := { dst := some 10, op := _, type := _, pos := _, after := _, guard := _ }) rfl (by kernel_rfl) (by kernel_rfl) (by kernel_rfl) (fun _ _ _ h => h) (Or.inl ⟨by rfl, fun w _ => by go_simp; rfl⟩) hHeld ?_
    simp only [Act.put, List.setIfInBounds_toArray, List.set_cons_zero, List.set_cons_succ]
    refine wpAnyH_take (i := 6) (oi := { dst := some 11, op := _, type := _, pos := _, after := _, guard := _ }) rfl (by kernel_rfl) (by kernel_rfl) (by kernel_rfl) (fun _ _ _ h => h) (Or.inl ⟨by rfl, fun w _ => by go_simp; rfl⟩) hHeld ?_
    simp only [Act.put, List.setIfInBounds_toArray, List.set_cons_zero, List.set_cons_succ]
    refine wpAnyH_take (i := 7) (oi := { dst := some 12, op := _, type := _, pos := _, after := _, guard := _ }) rfl (by kernel_rfl) (by kernel_rfl) (by kernel_rfl) (fun _ _ _ h => h) (Or.inl ⟨by rfl, fun w hS => by have q := NodeIs.c6 hS.2; go_simp; rfl⟩) hHeld ?_
    simp only [Act.put, List.setIfInBounds_toArray, List.set_cons_zero, List.set_cons_succ]
    refine wpAnyH_take (i := 8) (oi := { dst := some 13, op := _, type := _, pos := _, after := _, guard := _ }) rfl (by kernel_rfl) (by kernel_rfl) (by kernel_rfl) (fun _ _ _ h => h) (Or.inl ⟨by rfl, fun w _ => by go_simp; rfl⟩) hHeld ?_
    simp only [Act.put, List.setIfInBounds_toArray, List.set_cons_zero, List.set_cons_succ]
    refine wpAnyH_done (by kernel_rfl) ?_ _
    have HH : Hid (NodeIs w wD b1 o1 r1 l1 q1 ∧ NodeIs w wD b2 o2 r1 l2 q2) := hHeld
    clear hHeld HN
    go_wp2_with fail
    refine wp_region_held_drew (S := fun w' => NodeIs w w' b1 o1 r1 l1 q1 ∧ NodeIs w w' b2 o2 r1 l2 q2) (by kernel_rfl) (HD.out _ HH.out) (fun hHeld => ?_)
    clear HH
    generalize World.drew _ = wE at hHeld ⊢
    refine wpAnyH_take (i := 0) (oi := { dst := some 23, op := _, type := _, pos := _, after := _, guard := _ }) rfl (by kernel_rfl) (by kernel_rfl) (by kernel_rfl) (fun _ _ _ h => h) (Or.inl ⟨by rfl, fun w _ => by go_simp; rfl⟩) hHeld ?_
    simp only [Act.put, List.setIfInBounds_toArray, List.set_cons_zero, List.set_cons_succ]
    refine wpAnyH_take (i := 1) (oi := { dst := some 24, op := _, type := _, pos := _, after := _, guard := _ }) rfl (by kernel_rfl) (by kernel_rfl) (by kernel_rfl) (fun _ _ _ h => h) (Or.inl ⟨by rfl, fun w _ => by go_simp; rfl⟩) hHeld ?_
    simp only [Act.put, List.setIfInBounds_toArray, List.set_cons_zero, List.set_cons_succ]
    refine wpAnyH_take (i := 2) (oi := { dst := some 25, op := _, type := _, pos := _, after := _, guard := _ }) rfl (by kernel_rfl) (by kernel_rfl) (by kernel_rfl) (fun _ _ _ h => h) (Or.inl ⟨by rfl, fun w _ => by go_simp; rfl⟩) hHeld ?_
    simp only [Act.put, List.setIfInBounds_toArray, List.set_cons_zero, List.set_cons_succ]
    refine wpAnyH_take (i := 3) (oi := { dst := some 26, op := _, type := _, pos := _, after := _, guard := _ }) rfl (by kernel_rfl) (by kernel_rfl) (by kernel_rfl) (fun _ _ _ h => h) (Or.inl ⟨by rfl, fun w hS => by obtain ⟨a0, a1, a2, a3, a4, a5⟩ := NodeIs.op hS.1; go_simp; rfl⟩) hHeld ?_
    simp only [Act.put, List.setIfInBounds_toArray, List.set_cons_zero, List.set_cons_succ]
    refine wpAnyH_take (i := 4) (oi := { dst := some 27, op := _, type := _, pos := _, after := _, guard := _ }) rfl (by kernel_rfl) (by kernel_rfl) (by kernel_rfl) (fun _ _ _ h => h) (Or.inl ⟨by rfl, fun w _ => by go_simp; rfl⟩) hHeld ?_
    simp only [Act.put, List.setIfInBounds_toArray, List.set_cons_zero, List.set_cons_succ]
    refine wpAnyH_take (i := 6) (oi := { dst := some 29, op := _, type := _, pos := _, after := _, guard := _ }) rfl (by kernel_rfl) (by kernel_rfl) (by kernel_rfl) (fun _ _ _ h => h) (Or.inl ⟨by rfl, fun w _ => by go_simp; rfl⟩) hHeld ?_
    simp only [Act.put, List.setIfInBounds_toArray, List.set_cons_zero, List.set_cons_succ]
    refine wpAnyH_take (i := 7) (oi := { dst := some 30, op := _, type := _, pos := _, after := _, guard := _ }) rfl (by kernel_rfl) (by kernel_rfl) (by kernel_rfl) (fun _ _ _ h => h) (Or.inl ⟨by rfl, fun w _ => by go_simp; rfl⟩) hHeld ?_
    simp only [Act.put, List.setIfInBounds_toArray, List.set_cons_zero, List.set_cons_succ]
    refine wpAnyH_take (i := 8) (oi := { dst := some 31, op := _, type := _, pos := _, after := _, guard := _ }) rfl (by kernel_rfl) (by kernel_rfl) (by kernel_rfl) (fun _ _ _ h => h) (Or.inl ⟨by rfl, fun w _ => by go_simp; rfl⟩) hHeld ?_
    simp only [Act.put, List.setIfInBounds_toArray, List.set_cons_zero, List.set_cons_succ]
    refine wpAnyH_take (i := 9) (oi := { dst := some 32, op := _, type := _, pos := _, after := _, guard := _ }) rfl (by kernel_rfl) (by kernel_rfl) (by kernel_rfl) (fun _ _ _ h => h) (Or.inl ⟨by rfl, fun w hS => by obtain ⟨a0, a1, a2, a3, a4, a5⟩ := NodeIs.op hS.2; go_simp; rfl⟩) hHeld ?_
    simp only [Act.put, List.setIfInBounds_toArray, List.set_cons_zero, List.set_cons_succ]
    refine wpAnyH_take (i := 10) (oi := { dst := some 33, op := _, type := _, pos := _, after := _, guard := _ }) rfl (by kernel_rfl) (by kernel_rfl) (by kernel_rfl) (fun _ _ _ h => h) (Or.inl ⟨by rfl, fun w _ => by go_simp; rfl⟩) hHeld ?_
    simp only [Act.put, List.setIfInBounds_toArray, List.set_cons_zero, List.set_cons_succ]
    refine wpAnyH_ready (rs := [5]) (by kernel_rfl) (by simp) (AllReadyH.cons (o := { dst := some 28, op := _, type := _, pos := _, after := _, guard := _ }) rfl (fun K hK => ?_) AllReadyH.nil)
    have hm := mKey o1.kd o1.cl o1.ck o1.st o1.rf o1.ch
    go_simp
    refine (HK1.out _).mono ?_
    rintro e wk ⟨rfl, hbk⟩
    refine hK.out _ _ ⟨hHeld.1.kept hbk, hHeld.2.kept hbk⟩ (fun hHeld => ?_)
    clear hK K hbk hm
    refine wpAnyH_ready (rs := [11]) (by kernel_rfl) (by simp) (AllReadyH.cons (o := { dst := some 34, op := _, type := _, pos := _, after := _, guard := _ }) rfl (fun K hK => ?_) AllReadyH.nil)
    have hm := mKey o2.kd o2.cl o2.ck o2.st o2.rf o2.ch
    go_simp
    refine (HK2.out _).mono ?_
    rintro e wk ⟨rfl, hbk⟩
    refine hK.out _ _ ⟨hHeld.1.kept hbk, hHeld.2.kept hbk⟩ (fun hHeld => ?_)
    clear hK K hbk hm
    refine wpAnyH_take (i := 12) (oi := { dst := some 35, op := _, type := _, pos := _, after := _, guard := _ }) rfl (by kernel_rfl) (by kernel_rfl) (by kernel_rfl) (fun _ _ _ h => h) (Or.inl ⟨by rfl, fun w _ => by go_simp; rfl⟩) hHeld ?_
    simp only [Act.put, List.setIfInBounds_toArray, List.set_cons_zero, List.set_cons_succ]
    refine wpAnyH_ready (rs := [13]) (by kernel_rfl) (by simp) (AllReadyH.cons (o := { dst := some 4, op := _, type := _, pos := _, after := _, guard := _ }) rfl (fun K hK => ?_) AllReadyH.nil)
    go_simp
    refine hK.out _ _ hHeld (fun hHeld => ?_)
    clear hK K
    refine wpAnyH_done (by kernel_rfl) ?_ _
    go_wp2_with fail
    go_ret
    exact ⟨rfl, hHeld.1.below⟩
  · rw [if_neg hr]
    have hr' : (r1 == r2) = false := by simpa using hr
    go_enter Tryz.func315, Tryz.ntmps315
    go_wp2
    refine wp_region_held_drew (S := fun w' => NodeIs w w' b1 o1 r1 l1 q1 ∧ NodeIs w w' b2 o2 r2 l2 q2) (by kernel_rfl) (HD.out _ HN.out) (fun hHeld => ?_)
    generalize World.drew _ = wD at hHeld ⊢
    refine wpAnyH_take (i := 0) (oi := { dst := some 5, op := _, type := _, pos := _, after := _, guard := _ }) rfl (by kernel_rfl) (by kernel_rfl) (by kernel_rfl) (fun _ _ _ h => h) (Or.inl ⟨by rfl, fun w _ => by go_simp; rfl⟩) hHeld ?_
    simp only [Act.put, List.setIfInBounds_toArray, List.set_cons_zero, List.set_cons_succ]
    refine wpAnyH_take (i := 1) (oi := { dst := some 6, op := _, type := _, pos := _, after := _, guard := _ }) rfl (by kernel_rfl) (by kernel_rfl) (by kernel_rfl) (fun _ _ _ h => h) (Or.inl ⟨by rfl, fun w _ => by go_simp; rfl⟩) hHeld ?_
    simp only [Act.put, List.setIfInBounds_toArray, List.set_cons_zero, List.set_cons_succ]
    refine wpAnyH_take (i := 2) (oi := { dst := some 7, op := _, type := _, pos := _, after := _, guard := _ }) rfl (by kernel_rfl) (by kernel_rfl) (by kernel_rfl) (fun _ _ _ h => h) (Or.inl ⟨by rfl, fun w _ => by go_simp; rfl⟩) hHeld ?_
    simp only [Act.put, List.setIfInBounds_toArray, List.set_cons_zero, List.set_cons_succ]
    refine wpAnyH_take (i := 3) (oi := { dst := some 8, op := _, type := _, pos := _, after := _, guard := _ }) rfl (by kernel_rfl) (by kernel_rfl) (by kernel_rfl) (fun _ _ _ h => h) (Or.inl ⟨by rfl, fun w hS => by have q := NodeIs.c6 hS.1; go_simp; rfl⟩) hHeld ?_
    simp only [Act.put, List.setIfInBounds_toArray, List.set_cons_zero, List.set_cons_succ]
    refine wpAnyH_take (i := 4) (oi := { dst := some 9, op := _, type := _, pos := _, after := _, guard := _ }) rfl (by kernel_rfl) (by kernel_rfl) (by kernel_rfl) (fun _ _ _ h => h) (Or.inl ⟨by rfl, fun w _ => by go_simp; rfl⟩) hHeld ?_
    simp only [Act.put, List.setIfInBounds_toArray, List.set_cons_zero, List.set_cons_succ]
    refine wpAnyH_take (i := 5) (oi := { dst := some 10, op := _, type := _, pos := _, after := _, guard := _ }) rfl (by kernel_rfl) (by kernel_rfl) (by kernel_rfl) (fun _ _ _ h => h) (Or.inl ⟨by rfl, fun w _ => by go_simp; rfl⟩) hHeld ?_
    simp only [Act.put, List.setIfInBounds_toArray, List.set_cons_zero, List.set_cons_succ]
    refine wpAnyH_take (i := 6) (oi := { dst := some 11, op := _, type := _, pos := _, after := _, guard := _ }) rfl (by kernel_rfl) (by kernel_rfl) (by kernel_rfl) (fun _ _ _ h => h) (Or.inl ⟨by rfl, fun w _ => by go_simp; rfl⟩) hHeld ?_
    simp only [Act.put, List.setIfInBounds_toArray, List.set_cons_zero, List.set_cons_succ]
    refine wpAnyH_take (i := 7) (oi := { dst := some 12, op := _, type := _, pos := _, after := _, guard := _ }) rfl (by kernel_rfl) (by kernel_rfl) (by kernel_rfl) (fun _ _ _ h => h) (Or.inl ⟨by rfl, fun w hS => by have q := NodeIs.c6 hS.2; go_simp; rfl⟩) hHeld ?_
    simp only [Act.put, List.setIfInBounds_toArray, List.set_cons_zero, List.set_cons_succ]
    refine wpAnyH_take (i := 8) (oi := { dst := some 13, op := _, type := _, pos := _, after := _, guard := _ }) rfl (by kernel_rfl) (by kernel_rfl) (by kernel_rfl) (fun _ _ _ h => h) (Or.inl ⟨by rfl, fun w _ => by go_simp; rfl⟩) hHeld ?_
    simp only [Act.put, List.setIfInBounds_toArray, List.set_cons_zero, List.set_cons_succ]
    refine wpAnyH_done (by kernel_rfl) ?_ _
    have HH : Hid (NodeIs w wD b1 o1 r1 l1 q1 ∧ NodeIs w wD b2 o2 r2 l2 q2) := hHeld
    clear hHeld HN
    go_wp2_with fail
    refine wp_region_held_drew (S := fun w' => NodeIs w w' b1 o1 r1 l1 q1 ∧ NodeIs w w' b2 o2 r2 l2 q2) (by kernel_rfl) (HD.out _ HH.out) (fun hHeld => ?_)
    clear HH
    generalize World.drew _ = wE at hHeld ⊢
    refine wpAnyH_take (i := 0) (oi := { dst := some 14, op := _, type := _, pos := _, after := _, guard := _ }) rfl (by kernel_rfl) (by kernel_rfl) (by kernel_rfl) (fun _ _ _ h => h) (Or.inl ⟨by rfl, fun w _ => by go_simp; rfl⟩) hHeld ?_
    simp only [Act.put, List.setIfInBounds_toArray, List.set_cons_zero, List.set_cons_succ]
    refine wpAnyH_take (i := 1) (oi := { dst := some 15, op := _, type := _, pos := _, after := _, guard := _ }) rfl (by kernel_rfl) (by kernel_rfl) (by kernel_rfl) (fun _ _ _ h => h) (Or.inl ⟨by rfl, fun w _ => by go_simp; rfl⟩) hHeld ?_
    simp only [Act.put, List.setIfInBounds_toArray, List.set_cons_zero, List.set_cons_succ]
    refine wpAnyH_take (i := 2) (oi := { dst := some 16, op := _, type := _, pos := _, after := _, guard := _ }) rfl (by kernel_rfl) (by kernel_rfl) (by kernel_rfl) (fun _ _ _ h => h) (Or.inl ⟨by rfl, fun w _ => by go_simp; rfl⟩) hHeld ?_
    simp only [Act.put, List.setIfInBounds_toArray, List.set_cons_zero, List.set_cons_succ]
    refine wpAnyH_take (i := 3) (oi := { dst := some 17, op := _, type := _, pos := _, after := _, guard := _ }) rfl (by kernel_rfl) (by kernel_rfl) (by kernel_rfl) (fun _ _ _ h => h) (Or.inl ⟨by rfl, fun w hS => by have q := NodeIs.c6 hS.1; go_simp; rfl⟩) hHeld ?_
    simp only [Act.put, List.setIfInBounds_toArray, List.set_cons_zero, List.set_cons_succ]
    refine wpAnyH_take (i := 4) (oi := { dst := some 18, op := _, type := _, pos := _, after := _, guard := _ }) rfl (by kernel_rfl) (by kernel_rfl) (by kernel_rfl) (fun _ _ _ h => h) (Or.inl ⟨by rfl, fun w _ => by go_simp; rfl⟩) hHeld ?_
    simp only [Act.put, List.setIfInBounds_toArray, List.set_cons_zero, List.set_cons_succ]
    refine wpAnyH_take (i := 5) (oi := { dst := some 19, op := _, type := _, pos := _, after := _, guard := _ }) rfl (by kernel_rfl) (by kernel_rfl) (by kernel_rfl) (fun _ _ _ h => h) (Or.inl ⟨by rfl, fun w _ => by go_simp; rfl⟩) hHeld ?_
    simp only [Act.put, List.setIfInBounds_toArray, List.set_cons_zero, List.set_cons_succ]
    refine wpAnyH_take (i := 6) (oi := { dst := some 20, op := _, type := _, pos := _, after := _, guard := _ }) rfl (by kernel_rfl) (by kernel_rfl) (by kernel_rfl) (fun _ _ _ h => h) (Or.inl ⟨by rfl, fun w _ => by go_simp; rfl⟩) hHeld ?_
    simp only [Act.put, List.setIfInBounds_toArray, List.set_cons_zero, List.set_cons_succ]
    refine wpAnyH_take (i := 7) (oi := { dst := some 21, op := _, type := _, pos := _, after := _, guard := _ }) rfl (by kernel_rfl) (by kernel_rfl) (by kernel_rfl) (fun _ _ _ h => h) (Or.inl ⟨by rfl, fun w hS => by have q := NodeIs.c6 hS.2; go_simp; rfl⟩) hHeld ?_
    simp only [Act.put, List.setIfInBounds_toArray, List.set_cons_zero, List.set_cons_succ]
    refine wpAnyH_take (i := 8) (oi := { dst := some 22, op := _, type := _, pos := _, after := _, guard := _ }) rfl (by kernel_rfl) (by kernel_rfl) (by kernel_rfl) (fun _ _ _ h => h) (Or.inl ⟨by rfl, fun w _ => by go_simp; rfl⟩) hHeld ?_
    simp only [Act.put, List.setIfInBounds_toArray, List.set_cons_zero, List.set_cons_succ]
    refine wpAnyH_ready (rs := [9]) (by kernel_rfl) (by simp) (AllReadyH.cons (o := { dst := some 4, op := _, type := _, pos := _, after := _, guard := _ }) rfl (fun K hK => ?_) AllReadyH.nil)
    go_simp
    refine hK.out _ _ hHeld (fun hHeld => ?_)
    clear hK K
    refine wpAnyH_done (by kernel_rfl) ?_ _
    go_wp2_with fail
    go_ret
    exact ⟨rfl, hHeld.1.below⟩
end Go.Proofs.YtgccjefbedpmpaaGreatDoor
namespace Go.Proofs.YtgccjefbedpmpaaGreatDoor
open Go.RowKit
/-- All operations of a tree have clients and clocks of their types. -/
def Tr.T : Tr → Prop
  | ⟨none⟩ => True
  | ⟨some (o,_,l,r)⟩ => KeyT o ∧ l.T ∧ r.T
/-- What is below a key, and what is not. -/
def Tr.cut (k : Int) : Tr → Tr × Tr
  | ⟨none⟩ => (.nil, .nil)
  | ⟨some (o,rk,l,r)⟩ => if o.key < k then (.node o rk l (r.cut k).1, (r.cut k).2) else ((l.cut k).1, .node o rk (l.cut k).2 r)
theorem IsTr.ptr {w : World} {v : Value} {t : Tr} (h : IsTr w v t) : ∃ a, v = .pointer a := by
  cases t using Tr.cs with
  | nil => exact ⟨none, h⟩
  | node o rk l r => obtain ⟨b, vl, vr, rfl, _⟩ := h; exact ⟨_, rfl⟩
theorem Tr.cut_T {k : Int} : ∀ {t : Tr}, t.T → (t.cut k).1.T ∧ (t.cut k).2.T
  | ⟨none⟩, _ => ⟨trivial, trivial⟩
  | ⟨some (o,rk,l,r)⟩, ⟨h, h1, h2⟩ => by
    unfold Tr.cut
    split
    · exact ⟨⟨h, h1, (Tr.cut_T h2).1⟩, (Tr.cut_T h2).2⟩
    · exact ⟨(Tr.cut_T h1).1, ⟨h, (Tr.cut_T h1).2, h2⟩⟩
set_option maxRecDepth 100000 in
theorem cut_any (k : Int) (t : Tr) : ∀ (v : Value) (w : World), IsTr w v t → t.T → Calls Tryz.prog 277 #[v, .int .u64 k] w fun e w' => (∃ p q, e = .returned (.tuple #[p, q]) ∧ IsTr w' p (t.cut k).1 ∧ IsTr w' q (t.cut k).2) ∧ Below w.heap.size w w' := by
  induction t using Tr.ind with
  | nil =>
    rintro v w rfl -
    go_enter Tryz.func277, Tryz.ntmps277
    go_wp2
    go_ret2
    exact ⟨⟨_, _, rfl, rfl, rfl⟩, Below.refl _ _⟩
  | node o rk l r ihl ihr =>
    rintro v w ⟨b, vl, vr, rfl, hrow, hl, hr⟩ ⟨ht, htl, htr⟩
    have HK : Hid (∀ W, Calls Tryz.prog 365 #[.agg #[.int .i64 o.kd, .int .u32 o.cl, .int .u32 o.ck, .int .u32 o.st, .int .u64 o.rf, .int .i32 o.ch]] W fun e w' => e = .returned (.int .u64 o.key) ∧ Below W.heap.size W w') := eKey_any o ht
    have HN : Hid (NodeIs w w b o rk vl vr) := ⟨Below.refl _ _, hrow⟩
    have HL : Hid (∀ W, Below w.heap.size w W → Calls Tryz.prog 277 #[vl, .int .u64 k] W fun e w' => (∃ p q, e = .returned (.tuple #[p, q]) ∧ IsTr w' p (l.cut k).1 ∧ IsTr w' q (l.cut k).2) ∧ Below W.heap.size W w') := fun W hW => ihl vl W (hl.below hW) htl
    have HR : Hid (∀ W, Below w.heap.size w W → Calls Tryz.prog 277 #[vr, .int .u64 k] W fun e w' => (∃ p q, e = .returned (.tuple #[p, q]) ∧ IsTr w' p (r.cut k).1 ∧ IsTr w' q (r.cut k).2) ∧ Below W.heap.size W w') := fun W hW => ihr vr W (hr.below hW) htr
    have HLR : Hid (IsTr w vl l ∧ IsTr w vr r) := ⟨hl, hr⟩
    have hpl := hl.ptr
    have hpr := hr.ptr
    have HP : Hid ((∃ a, vl = .pointer a) ∧ ∃ a, vr = .pointer a) := ⟨hpl, hpr⟩
    have hm := mKey o.kd o.cl o.ck o.st o.rf o.ch
    obtain ⟨c0, c1, c2, c3, c4, c5⟩ := HN.out.op
    clear ihl ihr hl hr hrow htl htr hpl hpr ht
    by_cases hk : o.key < k
    · have e : Tr.cut k (.node o rk l r) = (.node o rk l (r.cut k).1, (r.cut k).2) := by rw [Tr.cut, if_pos hk]
      rw [e]
      have HC : Hid True := trivial
      generalize r.cut k = rc at *
      clear e HL
      go_enter Tryz.func277, Tryz.ntmps277
      go_wp2_with (first
        | (go_at_call 365; refine (HK.out _).mono ?_; rintro e w1 ⟨rfl, hb1⟩; have N1 := HN.out.kept hb1; have d8 := N1.c8)
        | (go_at_call 277; refine (HR.out _ N1.below).mono ?_; rintro e w2 ⟨⟨p, q, rfl, hp, hq⟩, hb2⟩; have N2 := N1.kept hb2; have d7 := N2.c7; have HPQ : Hid (IsTr w2 p rc.1 ∧ IsTr w2 q rc.2) := ⟨hp, hq⟩; clear hp hq)
        | (go_at_call 316; refine (over_any b o rk vl vr vl p HP.out.1 HPQ.out.1.ptr _ N2.row).mono ?_; rintro e w3 ⟨⟨g, rfl, hg⟩, hb3⟩))
      go_ret2
      exact ⟨⟨_, _, rfl, ⟨g, vl, p, rfl, hg, (HLR.out.1.below (N2.below.trans (hb3.mono N2.below.size))), HPQ.out.1.below hb3⟩, HPQ.out.2.below hb3⟩, N2.below.trans (hb3.mono N2.below.size)⟩
    · have e : Tr.cut k (.node o rk l r) = ((l.cut k).1, .node o rk (l.cut k).2 r) := by rw [Tr.cut, if_neg hk]
      rw [e]
      generalize l.cut k = lc at *
      clear e HR
      go_enter Tryz.func277, Tryz.ntmps277
      go_wp2_with (first
        | (go_at_call 365; refine (HK.out _).mono ?_; rintro e w1 ⟨rfl, hb1⟩; have N1 := HN.out.kept hb1; have d7 := N1.c7)
        | (go_at_call 277; refine (HL.out _ N1.below).mono ?_; rintro e w2 ⟨⟨p, q, rfl, hp, hq⟩, hb2⟩; have N2 := N1.kept hb2; have d8 := N2.c8; have HPQ : Hid (IsTr w2 p lc.1 ∧ IsTr w2 q lc.2) := ⟨hp, hq⟩; clear hp hq)
        | (go_at_call 316; refine (over_any b o rk vl vr q vr HPQ.out.2.ptr HP.out.2 _ N2.row).mono ?_; rintro e w3 ⟨⟨g, rfl, hg⟩, hb3⟩))
      go_ret2
      exact ⟨⟨_, _, rfl, HPQ.out.1.below hb3, ⟨g, q, vr, rfl, hg, HPQ.out.2.below hb3, HLR.out.2.below (N2.below.trans (hb3.mono N2.below.size))⟩⟩, N2.below.trans (hb3.mono N2.below.size)⟩
end Go.Proofs.YtgccjefbedpmpaaGreatDoor
namespace Go.Proofs.YtgccjefbedpmpaaGreatDoor
open Go.RowKit
/-- Does a new operation stand above a tree's top? -/
def Tr.isBelow (o : Opn) (rk : Int) : Tr → Bool
  | ⟨none⟩ => true
  | ⟨some (o',rk',_,_)⟩ => if rk = rk' then decide (o'.key < o.key) else decide (rk' < rk)
/-- The tree with one operation more. -/
def Tr.with (o : Opn) (rk : Int) : Tr → Tr
  | ⟨none⟩ => .node o rk .nil .nil
  | ⟨some (o',rk',l,r)⟩ =>
    if (Tr.node o' rk' l r).isBelow o rk then .node o rk ((Tr.node o' rk' l r).cut o.key).1 ((Tr.node o' rk' l r).cut o.key).2
    else if o.key < o'.key then .node o' rk' (l.with o rk) r
    else if o'.key < o.key then .node o' rk' l (r.with o rk)
    else .node o rk l r
set_option maxRecDepth 100000 in
set_option maxHeartbeats 1000000 in
theorem with_any (o : Opn) (rk : Int) (ho : KeyT o) (fb : Nat) (t : Tr) : ∀ (v : Value) (w : World), IsTr w v t → t.T → RowIs w fb 318 9 (nd9 o rk (.pointer none) (.pointer none)) → Calls Tryz.prog 273 #[v, .pointer (some ⟨fb, 0, none⟩)] w fun e w' => (∃ p, e = .returned p ∧ IsTr w' p (t.with o rk)) ∧ Below w.heap.size w w' := by
  have HK : Hid (∀ W, Calls Tryz.prog 365 #[.agg #[.int .i64 o.kd, .int .u32 o.cl, .int .u32 o.ck, .int .u32 o.st, .int .u64 o.rf, .int .i32 o.ch]] W fun e w' => e = .returned (.int .u64 o.key) ∧ Below W.heap.size W w') := eKey_any o ho
  have hm := mKey o.kd o.cl o.ck o.st o.rf o.ch
  induction t using Tr.ind with
  | nil =>
    rintro v w rfl - hF
    have HFN : Hid (NodeIs w w fb o rk (.pointer none) (.pointer none)) := ⟨Below.refl _ _, hF⟩
    obtain ⟨f0, f1, f2, f3, f4, f5⟩ := HFN.out.op
    have HC : Hid (∀ W, Calls Tryz.prog 277 #[.pointer none, .int .u64 o.key] W fun e w' => (∃ p q, e = .returned (.tuple #[p, q]) ∧ IsTr w' p (Tr.cut o.key .nil).1 ∧ IsTr w' q (Tr.cut o.key .nil).2) ∧ Below W.heap.size W w') := fun W => cut_any o.key .nil _ W rfl trivial
    clear hF
    go_enter Tryz.func273, Tryz.ntmps273
    go_wp2_with (first
      | (go_at_call 365; refine (HK.out _).mono ?_; rintro e w1 ⟨rfl, hb1⟩; have N1 := HFN.out.kept hb1)
      | (go_at_call 277; refine (HC.out _).mono ?_; rintro e w2 ⟨⟨p, q, rfl, hp, hq⟩, hb2⟩; have N2 := N1.kept hb2; clear N1; have HPQ : Hid (IsTr w2 p .nil ∧ IsTr w2 q .nil) := ⟨hp, hq⟩; clear hp hq)
      | (go_at_call 316; refine (over_any fb o rk _ _ p q HPQ.out.1.ptr HPQ.out.2.ptr _ N2.row).mono ?_; rintro e w3 ⟨⟨g, rfl, hg⟩, hb3⟩))
    go_ret
    exact ⟨⟨_, rfl, g, p, q, rfl, hg, HPQ.out.1.below hb3, HPQ.out.2.below hb3⟩, N2.below.trans (hb3.mono N2.below.size)⟩
  | node o' rk' l r ihl ihr =>
    rintro v w ⟨b, vl, vr, rfl, hrow, hl, hr⟩ ⟨ht, htl, htr⟩ hF
    have HFN : Hid (NodeIs w w fb o rk (.pointer none) (.pointer none)) := ⟨Below.refl _ _, hF⟩
    have HF : Hid (RowIs w fb 318 9 (nd9 o rk (.pointer none) (.pointer none))) := hF
    have HN : Hid (NodeIs w w b o' rk' vl vr) := ⟨Below.refl _ _, hrow⟩
    have HK' : Hid (∀ W, Calls Tryz.prog 365 #[.agg #[.int .i64 o'.kd, .int .u32 o'.cl, .int .u32 o'.ck, .int .u32 o'.st, .int .u64 o'.rf, .int .i32 o'.ch]] W fun e w' => e = .returned (.int .u64 o'.key) ∧ Below W.heap.size W w') := eKey_any o' ht
    have hm' := mKey o'.kd o'.cl o'.ck o'.st o'.rf o'.ch
    have HA : Hid (∀ W, Below w.heap.size w W → Calls Tryz.prog 315 #[.pointer (some ⟨fb, 0, none⟩), .pointer (some ⟨b, 0, none⟩)] W fun e w' => e = .returned (.bool ((Tr.node o' rk' l r).isBelow o rk)) ∧ Below W.heap.size W w') := fun W hW => isAbove_any fb b o o' rk rk' _ _ vl vr ho ht W (hF.below hW hF.lt) (hrow.below hW hrow.lt)
    have HLR : Hid (IsTr w vl l ∧ IsTr w vr r) := ⟨hl, hr⟩
    have HP : Hid ((∃ a, vl = .pointer a) ∧ ∃ a, vr = .pointer a) := ⟨hl.ptr, hr.ptr⟩
    have HC : Hid (∀ W, Below w.heap.size w W → Calls Tryz.prog 277 #[.pointer (some ⟨b, 0, none⟩), .int .u64 o.key] W fun e w' => (∃ p q, e = .returned (.tuple #[p, q]) ∧ IsTr w' p ((Tr.node o' rk' l r).cut o.key).1 ∧ IsTr w' q ((Tr.node o' rk' l r).cut o.key).2) ∧ Below W.heap.size W w') := fun W hW => cut_any o.key _ _ W ⟨b, vl, vr, rfl, hrow.below hW hrow.lt, hl.below hW, hr.below hW⟩ ⟨ht, htl, htr⟩
    have HL : Hid (∀ W, Below w.heap.size w W → Calls Tryz.prog 273 #[vl, .pointer (some ⟨fb, 0, none⟩)] W fun e w' => (∃ p, e = .returned p ∧ IsTr w' p (l.with o rk)) ∧ Below W.heap.size W w') := fun W hW => ihl vl W (hl.below hW) htl (hF.below hW hF.lt)
    have HR : Hid (∀ W, Below w.heap.size w W → Calls Tryz.prog 273 #[vr, .pointer (some ⟨fb, 0, none⟩)] W fun e w' => (∃ p, e = .returned p ∧ IsTr w' p (r.with o rk)) ∧ Below W.heap.size W w') := fun W hW => ihr vr W (hr.below hW) htr (hF.below hW hF.lt)
    clear ihl ihr hl hr hrow htl htr hF ht ho
    have hW : Tr.with o rk (.node o' rk' l r) = if (Tr.node o' rk' l r).isBelow o rk then .node o rk ((Tr.node o' rk' l r).cut o.key).1 ((Tr.node o' rk' l r).cut o.key).2 else if o.key < o'.key then .node o' rk' (l.with o rk) r else if o'.key < o.key then .node o' rk' l (r.with o rk) else .node o rk l r := rfl
    rw [hW]
    clear hW
    generalize (Tr.node o' rk' l r).isBelow o rk = B at *
    generalize (Tr.node o' rk' l r).cut o.key = CC at *
    cases B
    · rw [if_neg (by simp)]
      clear HC
      rcases Int.lt_trichotomy o.key o'.key with hk | hk | hk
      · rw [if_pos hk]
        clear HR
        go_enter Tryz.func273, Tryz.ntmps273
        go_wp2_with (first
          | (go_at_call 315; refine (HA.out _ (Below.refl _ _)).mono ?_; rintro e w1 ⟨rfl, hb1⟩; have N1 := HN.out.kept hb1; obtain ⟨f0, f1, f2, f3, f4, f5⟩ := NodeIs.op (HFN.out.kept hb1))
          | (go_at_call 365; have hq := N2; clear hq; refine (HK'.out _).mono ?_; rintro e w3 ⟨rfl, hb3⟩; have N3 := N2.kept hb3; clear N2; obtain ⟨g0, g1, g2, g3, g4, g5⟩ := N3.op)
          | (go_at_call 365; have hq := N3; clear hq; refine (HK'.out _).mono ?_; rintro e w4 ⟨rfl, hb4⟩; have N4 := N3.kept hb4; clear N3)
          | (go_at_call 365; have hq := N1; clear hq; refine (HK.out _).mono ?_; rintro e w2 ⟨rfl, hb2⟩; have N2 := N1.kept hb2; clear N1; obtain ⟨e0, e1, e2, e3, e4, e5⟩ := N2.op))
        have HNN : Hid (NodeIs w _ b o' rk' vl vr) := N3
        refine wp_region_held_drew (S := fun w' => NodeIs w w' b o' rk' vl vr) (by kernel_rfl) HNN.out.drew (fun hHeld => ?_)
        generalize World.drew _ = wD at hHeld ⊢
        refine wpAnyH_take (i := 0) (oi := { dst := some 40, op := _, type := _, pos := _, after := _, guard := _ }) rfl (by kernel_rfl) (by kernel_rfl) (by kernel_rfl) (fun _ _ _ h => h) (Or.inl ⟨by rfl, fun w _ => by go_simp; rfl⟩) hHeld ?_
        simp only [Act.put, List.setIfInBounds_toArray, List.set_cons_zero, List.set_cons_succ]
        refine wpAnyH_take (i := 1) (oi := { dst := some 41, op := _, type := _, pos := _, after := _, guard := _ }) rfl (by kernel_rfl) (by kernel_rfl) (by kernel_rfl) (fun _ _ _ h => h) (Or.inl ⟨by rfl, fun w _ => by go_simp; rfl⟩) hHeld ?_
        simp only [Act.put, List.setIfInBounds_toArray, List.set_cons_zero, List.set_cons_succ]
        refine wpAnyH_take (i := 2) (oi := { dst := some 42, op := _, type := _, pos := _, after := _, guard := _ }) rfl (by kernel_rfl) (by kernel_rfl) (by kernel_rfl) (fun _ _ _ h => h) (Or.inl ⟨by rfl, fun w _ => by go_simp; rfl⟩) hHeld ?_
        simp only [Act.put, List.setIfInBounds_toArray, List.set_cons_zero, List.set_cons_succ]
        refine wpAnyH_take (i := 3) (oi := { dst := some 43, op := _, type := _, pos := _, after := _, guard := _ }) rfl (by kernel_rfl) (by kernel_rfl) (by kernel_rfl) (fun _ _ _ h => h) (Or.inl ⟨by rfl, fun w _ => by go_simp; rfl⟩) hHeld ?_
        simp only [Act.put, List.setIfInBounds_toArray, List.set_cons_zero, List.set_cons_succ]
        refine wpAnyH_take (i := 4) (oi := { dst := some 44, op := _, type := _, pos := _, after := _, guard := _ }) rfl (by kernel_rfl) (by kernel_rfl) (by kernel_rfl) (fun _ _ _ h => h) (Or.inl ⟨by rfl, fun w hS => by have q := NodeIs.c7 hS; go_simp; rfl⟩) hHeld ?_
        simp only [Act.put, List.setIfInBounds_toArray, List.set_cons_zero, List.set_cons_succ]
        refine wpAnyH_take (i := 5) (oi := { dst := some 45, op := _, type := _, pos := _, after := _, guard := _ }) rfl (by kernel_rfl) (by kernel_rfl) (by kernel_rfl) (fun _ _ _ h => h) (Or.inl ⟨by rfl, fun w _ => by go_simp; rfl⟩) hHeld ?_
        simp only [Act.put, List.setIfInBounds_toArray, List.set_cons_zero, List.set_cons_succ]
        refine wpAnyH_take (i := 7) (oi := { dst := some 47, op := _, type := _, pos := _, after := _, guard := _ }) rfl (by kernel_rfl) (by kernel_rfl) (by kernel_rfl) (fun _ _ _ h => h) (Or.inl ⟨by rfl, fun w _ => by go_simp; rfl⟩) hHeld ?_
        simp only [Act.put, List.setIfInBounds_toArray, List.set_cons_zero, List.set_cons_succ]
        refine wpAnyH_take (i := 8) (oi := { dst := some 48, op := _, type := _, pos := _, after := _, guard := _ }) rfl (by kernel_rfl) (by kernel_rfl) (by kernel_rfl) (fun _ _ _ h => h) (Or.inl ⟨by rfl, fun w _ => by go_simp; rfl⟩) hHeld ?_
        simp only [Act.put, List.setIfInBounds_toArray, List.set_cons_zero, List.set_cons_succ]
        refine wpAnyH_take (i := 9) (oi := { dst := some 49, op := _, type := _, pos := _, after := _, guard := _ }) rfl (by kernel_rfl) (by kernel_rfl) (by kernel_rfl) (fun _ _ _ h => h) (Or.inl ⟨by rfl, fun w _ => by go_simp; rfl⟩) hHeld ?_
        simp only [Act.put, List.setIfInBounds_toArray, List.set_cons_zero, List.set_cons_succ]
        refine wpAnyH_take (i := 10) (oi := { dst := some 50, op := _, type := _, pos := _, after := _, guard := _ }) rfl (by kernel_rfl) (by kernel_rfl) (by kernel_rfl) (fun _ _ _ h => h) (Or.inl ⟨by rfl, fun w hS => by have q := NodeIs.c8 hS; go_simp; rfl⟩) hHeld ?_
        simp only [Act.put, List.setIfInBounds_toArray, List.set_cons_zero, List.set_cons_succ]
        refine wpAnyH_ready (rs := [6]) (by kernel_rfl) (by simp) (AllReadyH.cons (o := { dst := some 46, op := _, type := _, pos := _, after := _, guard := _ }) rfl (fun K hK => ?_) AllReadyH.nil)
        go_simp
        refine (HL.out _ hHeld.below).mono ?_
        rintro e w5 ⟨⟨p, rfl, hp⟩, hb5⟩
        have HQ : Hid (IsTr w5 p _) := hp
        clear hp
        refine hK.out _ _ (hHeld.kept hb5) (fun hHeld => ?_)
        clear hK K hb5
        refine wpAnyH_ready (rs := [11]) (by kernel_rfl) (by simp) (AllReadyH.cons (o := { dst := some 51, op := _, type := _, pos := _, after := _, guard := _ }) rfl (fun K hK => ?_) AllReadyH.nil)
        go_simp
        refine (over_any b o' rk' vl vr p vr HQ.out.ptr HP.out.2 _ hHeld.row).mono ?_
        rintro e w6 ⟨⟨g, rfl, hg⟩, hb6⟩
        have HG : Hid (Below _ _ w6 ∧ RowIs w6 g _ 9 _) := ⟨hb6, hg⟩
        refine hK.out _ _ (hHeld.kept hb6) (fun hHeld => ?_)
        clear hK K hb6 hg
        refine wpAnyH_ready (rs := [12]) (by kernel_rfl) (by simp) (AllReadyH.cons (o := { dst := some 4, op := _, type := _, pos := _, after := _, guard := _ }) rfl (fun K hK => ?_) AllReadyH.nil)
        go_simp
        refine hK.out _ _ hHeld (fun hHeld => ?_)
        clear hK K
        refine wpAnyH_done (by kernel_rfl) ?_ _
        go_wp2_with fail
        go_ret
        exact ⟨⟨_, rfl, g, p, vr, rfl, HG.out.2, HQ.out.below HG.out.1, HLR.out.2.below hHeld.below⟩, hHeld.below⟩
      · have hk1 : ¬ o.key < o'.key := by omega
        have hk2 : ¬ o'.key < o.key := by omega
        rw [if_neg hk1, if_neg hk2]
        clear HL HR
        go_enter Tryz.func273, Tryz.ntmps273
        go_wp2_with (first
          | (go_at_call 315; refine (HA.out _ (Below.refl _ _)).mono ?_; rintro e w1 ⟨rfl, hb1⟩; have N1 := HN.out.kept hb1; obtain ⟨f0, f1, f2, f3, f4, f5⟩ := NodeIs.op (HFN.out.kept hb1))
          | (go_at_call 365; have hq := N2; clear hq; refine (HK'.out _).mono ?_; rintro e w3 ⟨rfl, hb3⟩; have N3 := N2.kept hb3; clear N2; obtain ⟨g0, g1, g2, g3, g4, g5⟩ := N3.op)
          | (go_at_call 365; have hq := N3; clear hq; refine (HK'.out _).mono ?_; rintro e w4 ⟨rfl, hb4⟩; have N4 := N3.kept hb4; clear N3)
          | (go_at_call 365; have hq := N1; clear hq; refine (HK.out _).mono ?_; rintro e w2 ⟨rfl, hb2⟩; have N2 := N1.kept hb2; clear N1; obtain ⟨e0, e1, e2, e3, e4, e5⟩ := N2.op))
        have HNN : Hid (NodeIs w _ b o' rk' vl vr) := N4
        refine wp_region_held_drew (S := fun w' => NodeIs w w' b o' rk' vl vr) (by kernel_rfl) HNN.out.drew (fun hHeld => ?_)
        generalize World.drew _ = wD at hHeld ⊢
        refine wpAnyH_take (i := 0) (oi := { dst := some 73, op := _, type := _, pos := _, after := _, guard := _ }) rfl (by kernel_rfl) (by kernel_rfl) (by kernel_rfl) (fun _ _ _ h => h) (Or.inl ⟨by rfl, fun w _ => by go_simp; rfl⟩) hHeld ?_
        simp only [Act.put, List.setIfInBounds_toArray, List.set_cons_zero, List.set_cons_succ]
        refine wpAnyH_take (i := 1) (oi := { dst := some 74, op := _, type := _, pos := _, after := _, guard := _ }) rfl (by kernel_rfl) (by kernel_rfl) (by kernel_rfl) (fun _ _ _ h => h) (Or.inl ⟨by rfl, fun w _ => by go_simp; rfl⟩) hHeld ?_
        simp only [Act.put, List.setIfInBounds_toArray, List.set_cons_zero, List.set_cons_succ]
        refine wpAnyH_take (i := 2) (oi := { dst := some 75, op := _, type := _, pos := _, after := _, guard := _ }) rfl (by kernel_rfl) (by kernel_rfl) (by kernel_rfl) (fun _ _ _ h => h) (Or.inl ⟨by rfl, fun w _ => by go_simp; rfl⟩) hHeld ?_
        simp only [Act.put, List.setIfInBounds_toArray, List.set_cons_zero, List.set_cons_succ]
        refine wpAnyH_take (i := 3) (oi := { dst := some 76, op := _, type := _, pos := _, after := _, guard := _ }) rfl (by kernel_rfl) (by kernel_rfl) (by kernel_rfl) (fun _ _ _ h => h) (Or.inl ⟨by rfl, fun w _ => by go_simp; rfl⟩) hHeld ?_
        simp only [Act.put, List.setIfInBounds_toArray, List.set_cons_zero, List.set_cons_succ]
        refine wpAnyH_take (i := 4) (oi := { dst := some 77, op := _, type := _, pos := _, after := _, guard := _ }) rfl (by kernel_rfl) (by kernel_rfl) (by kernel_rfl) (fun _ _ _ h => h) (Or.inl ⟨by rfl, fun w hS => by have q := NodeIs.c7 hS; go_simp; rfl⟩) hHeld ?_
        simp only [Act.put, List.setIfInBounds_toArray, List.set_cons_zero, List.set_cons_succ]
        refine wpAnyH_take (i := 5) (oi := { dst := some 78, op := _, type := _, pos := _, after := _, guard := _ }) rfl (by kernel_rfl) (by kernel_rfl) (by kernel_rfl) (fun _ _ _ h => h) (Or.inl ⟨by rfl, fun w _ => by go_simp; rfl⟩) hHeld ?_
        simp only [Act.put, List.setIfInBounds_toArray, List.set_cons_zero, List.set_cons_succ]
        refine wpAnyH_take (i := 6) (oi := { dst := some 79, op := _, type := _, pos := _, after := _, guard := _ }) rfl (by kernel_rfl) (by kernel_rfl) (by kernel_rfl) (fun _ _ _ h => h) (Or.inl ⟨by rfl, fun w _ => by go_simp; rfl⟩) hHeld ?_
        simp only [Act.put, List.setIfInBounds_toArray, List.set_cons_zero, List.set_cons_succ]
        refine wpAnyH_take (i := 7) (oi := { dst := some 80, op := _, type := _, pos := _, after := _, guard := _ }) rfl (by kernel_rfl) (by kernel_rfl) (by kernel_rfl) (fun _ _ _ h => h) (Or.inl ⟨by rfl, fun w _ => by go_simp; rfl⟩) hHeld ?_
        simp only [Act.put, List.setIfInBounds_toArray, List.set_cons_zero, List.set_cons_succ]
        refine wpAnyH_take (i := 8) (oi := { dst := some 81, op := _, type := _, pos := _, after := _, guard := _ }) rfl (by kernel_rfl) (by kernel_rfl) (by kernel_rfl) (fun _ _ _ h => h) (Or.inl ⟨by rfl, fun w hS => by have q := NodeIs.c8 hS; go_simp; rfl⟩) hHeld ?_
        simp only [Act.put, List.setIfInBounds_toArray, List.set_cons_zero, List.set_cons_succ]
        refine wpAnyH_ready (rs := [9]) (by kernel_rfl) (by simp) (AllReadyH.cons (o := { dst := some 82, op := _, type := _, pos := _, after := _, guard := _ }) rfl (fun K hK => ?_) AllReadyH.nil)
        go_simp
        refine (over_any fb o rk (.pointer none) (.pointer none) vl vr HP.out.1 HP.out.2 _ (HF.out.below hHeld.below HF.out.lt)).mono ?_
        rintro e w6 ⟨⟨g, rfl, hg⟩, hb6⟩
        have HG : Hid (Below _ _ w6 ∧ RowIs w6 g _ 9 _) := ⟨hb6, hg⟩
        refine hK.out _ _ (hHeld.kept hb6) (fun hHeld => ?_)
        clear hK K hb6 hg
        refine wpAnyH_ready (rs := [10]) (by kernel_rfl) (by simp) (AllReadyH.cons (o := { dst := some 4, op := _, type := _, pos := _, after := _, guard := _ }) rfl (fun K hK => ?_) AllReadyH.nil)
        go_simp
        refine hK.out _ _ hHeld (fun hHeld => ?_)
        clear hK K
        refine wpAnyH_done (by kernel_rfl) ?_ _
        go_wp2_with fail
        go_ret
        exact ⟨⟨_, rfl, g, vl, vr, rfl, HG.out.2, HLR.out.1.below hHeld.below, HLR.out.2.below hHeld.below⟩, hHeld.below⟩
      · have hk1 : ¬ o.key < o'.key := by omega
        rw [if_neg hk1, if_pos hk]
        clear HL
        go_enter Tryz.func273, Tryz.ntmps273
        go_wp2_with (first
          | (go_at_call 315; refine (HA.out _ (Below.refl _ _)).mono ?_; rintro e w1 ⟨rfl, hb1⟩; have N1 := HN.out.kept hb1; obtain ⟨f0, f1, f2, f3, f4, f5⟩ := NodeIs.op (HFN.out.kept hb1))
          | (go_at_call 365; have hq := N2; clear hq; refine (HK'.out _).mono ?_; rintro e w3 ⟨rfl, hb3⟩; have N3 := N2.kept hb3; clear N2; obtain ⟨g0, g1, g2, g3, g4, g5⟩ := N3.op)
          | (go_at_call 365; have hq := N3; clear hq; refine (HK'.out _).mono ?_; rintro e w4 ⟨rfl, hb4⟩; have N4 := N3.kept hb4; clear N3)
          | (go_at_call 365; have hq := N1; clear hq; refine (HK.out _).mono ?_; rintro e w2 ⟨rfl, hb2⟩; have N2 := N1.kept hb2; clear N1; obtain ⟨e0, e1, e2, e3, e4, e5⟩ := N2.op))
        have HNN : Hid (NodeIs w _ b o' rk' vl vr) := N4
        refine wp_region_held_drew (S := fun w' => NodeIs w w' b o' rk' vl vr) (by kernel_rfl) HNN.out.drew (fun hHeld => ?_)
        generalize World.drew _ = wD at hHeld ⊢
        refine wpAnyH_take (i := 0) (oi := { dst := some 61, op := _, type := _, pos := _, after := _, guard := _ }) rfl (by kernel_rfl) (by kernel_rfl) (by kernel_rfl) (fun _ _ _ h => h) (Or.inl ⟨by rfl, fun w _ => by go_simp; rfl⟩) hHeld ?_
        simp only [Act.put, List.setIfInBounds_toArray, List.set_cons_zero, List.set_cons_succ]
        refine wpAnyH_take (i := 1) (oi := { dst := some 62, op := _, type := _, pos := _, after := _, guard := _ }) rfl (by kernel_rfl) (by kernel_rfl) (by kernel_rfl) (fun _ _ _ h => h) (Or.inl ⟨by rfl, fun w _ => by go_simp; rfl⟩) hHeld ?_
        simp only [Act.put, List.setIfInBounds_toArray, List.set_cons_zero, List.set_cons_succ]
        refine wpAnyH_take (i := 2) (oi := { dst := some 63, op := _, type := _, pos := _, after := _, guard := _ }) rfl (by kernel_rfl) (by kernel_rfl) (by kernel_rfl) (fun _ _ _ h => h) (Or.inl ⟨by rfl, fun w _ => by go_simp; rfl⟩) hHeld ?_
        simp only [Act.put, List.setIfInBounds_toArray, List.set_cons_zero, List.set_cons_succ]
        refine wpAnyH_take (i := 3) (oi := { dst := some 64, op := _, type := _, pos := _, after := _, guard := _ }) rfl (by kernel_rfl) (by kernel_rfl) (by kernel_rfl) (fun _ _ _ h => h) (Or.inl ⟨by rfl, fun w _ => by go_simp; rfl⟩) hHeld ?_
        simp only [Act.put, List.setIfInBounds_toArray, List.set_cons_zero, List.set_cons_succ]
        refine wpAnyH_take (i := 4) (oi := { dst := some 65, op := _, type := _, pos := _, after := _, guard := _ }) rfl (by kernel_rfl) (by kernel_rfl) (by kernel_rfl) (fun _ _ _ h => h) (Or.inl ⟨by rfl, fun w hS => by have q := NodeIs.c7 hS; go_simp; rfl⟩) hHeld ?_
        simp only [Act.put, List.setIfInBounds_toArray, List.set_cons_zero, List.set_cons_succ]
        refine wpAnyH_take (i := 5) (oi := { dst := some 66, op := _, type := _, pos := _, after := _, guard := _ }) rfl (by kernel_rfl) (by kernel_rfl) (by kernel_rfl) (fun _ _ _ h => h) (Or.inl ⟨by rfl, fun w _ => by go_simp; rfl⟩) hHeld ?_
        simp only [Act.put, List.setIfInBounds_toArray, List.set_cons_zero, List.set_cons_succ]
        refine wpAnyH_take (i := 6) (oi := { dst := some 67, op := _, type := _, pos := _, after := _, guard := _ }) rfl (by kernel_rfl) (by kernel_rfl) (by kernel_rfl) (fun _ _ _ h => h) (Or.inl ⟨by rfl, fun w _ => by go_simp; rfl⟩) hHeld ?_
        simp only [Act.put, List.setIfInBounds_toArray, List.set_cons_zero, List.set_cons_succ]
        refine wpAnyH_take (i := 7) (oi := { dst := some 68, op := _, type := _, pos := _, after := _, guard := _ }) rfl (by kernel_rfl) (by kernel_rfl) (by kernel_rfl) (fun _ _ _ h => h) (Or.inl ⟨by rfl, fun w _ => by go_simp; rfl⟩) hHeld ?_
        simp only [Act.put, List.setIfInBounds_toArray, List.set_cons_zero, List.set_cons_succ]
        refine wpAnyH_take (i := 8) (oi := { dst := some 69, op := _, type := _, pos := _, after := _, guard := _ }) rfl (by kernel_rfl) (by kernel_rfl) (by kernel_rfl) (fun _ _ _ h => h) (Or.inl ⟨by rfl, fun w hS => by have q := NodeIs.c8 hS; go_simp; rfl⟩) hHeld ?_
        simp only [Act.put, List.setIfInBounds_toArray, List.set_cons_zero, List.set_cons_succ]
        refine wpAnyH_take (i := 9) (oi := { dst := some 70, op := _, type := _, pos := _, after := _, guard := _ }) rfl (by kernel_rfl) (by kernel_rfl) (by kernel_rfl) (fun _ _ _ h => h) (Or.inl ⟨by rfl, fun w _ => by go_simp; rfl⟩) hHeld ?_
        simp only [Act.put, List.setIfInBounds_toArray, List.set_cons_zero, List.set_cons_succ]
        refine wpAnyH_ready (rs := [10]) (by kernel_rfl) (by simp) (AllReadyH.cons (o := { dst := some 71, op := _, type := _, pos := _, after := _, guard := _ }) rfl (fun K hK => ?_) AllReadyH.nil)
        go_simp
        refine (HR.out _ hHeld.below).mono ?_
        rintro e w5 ⟨⟨p, rfl, hp⟩, hb5⟩
        have HQ : Hid (IsTr w5 p _) := hp
        clear hp
        refine hK.out _ _ (hHeld.kept hb5) (fun hHeld => ?_)
        clear hK K hb5
        refine wpAnyH_ready (rs := [11]) (by kernel_rfl) (by simp) (AllReadyH.cons (o := { dst := some 72, op := _, type := _, pos := _, after := _, guard := _ }) rfl (fun K hK => ?_) AllReadyH.nil)
        go_simp
        refine (over_any b o' rk' vl vr vl p HP.out.1 HQ.out.ptr _ hHeld.row).mono ?_
        rintro e w6 ⟨⟨g, rfl, hg⟩, hb6⟩
        have HG : Hid (Below _ _ w6 ∧ RowIs w6 g _ 9 _) := ⟨hb6, hg⟩
        refine hK.out _ _ (hHeld.kept hb6) (fun hHeld => ?_)
        clear hK K hb6 hg
        refine wpAnyH_ready (rs := [12]) (by kernel_rfl) (by simp) (AllReadyH.cons (o := { dst := some 4, op := _, type := _, pos := _, after := _, guard := _ }) rfl (fun K hK => ?_) AllReadyH.nil)
        go_simp
        refine hK.out _ _ hHeld (fun hHeld => ?_)
        clear hK K
        refine wpAnyH_done (by kernel_rfl) ?_ _
        go_wp2_with fail
        go_ret
        exact ⟨⟨_, rfl, g, vl, p, rfl, HG.out.2, HLR.out.1.below hHeld.below, HQ.out.below HG.out.1⟩, hHeld.below⟩
    · rw [if_pos rfl]
      clear HL HR
      go_enter Tryz.func273, Tryz.ntmps273
      go_wp2_with (first
        | (go_at_call 315; refine (HA.out _ (Below.refl _ _)).mono ?_; rintro e w1 ⟨rfl, hb1⟩; have F1 := HFN.out.kept hb1; obtain ⟨f0, f1, f2, f3, f4, f5⟩ := F1.op)
        | (go_at_call 365; refine (HK.out _).mono ?_; rintro e w2 ⟨rfl, hb2⟩; have F2 := F1.kept hb2; clear F1)
        | (go_at_call 277; refine (HC.out _ F2.below).mono ?_; rintro e w3 ⟨⟨p, q, rfl, hp, hq⟩, hb3⟩; have F3 := F2.kept hb3; clear F2; have HPQ : Hid (IsTr w3 p CC.1 ∧ IsTr w3 q CC.2) := ⟨hp, hq⟩; clear hp hq)
        | (go_at_call 316; refine (over_any fb o rk _ _ p q HPQ.out.1.ptr HPQ.out.2.ptr _ F3.row).mono ?_; rintro e w4 ⟨⟨g, rfl, hg⟩, hb4⟩))
      go_ret
      exact ⟨⟨_, rfl, g, p, q, rfl, hg, HPQ.out.1.below hb4, HPQ.out.2.below hb4⟩, F3.below.trans (hb4.mono F3.below.size)⟩
end Go.Proofs.YtgccjefbedpmpaaGreatDoor

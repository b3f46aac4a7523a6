import Derived.Test.YtgccjefbedpmpaaGreatDoorVAdd4
import Derived.Test.YtgccjefbedpmpaaGreatDoorVRIns2
namespace Go.Proofs.YtgccjefbedpmpaaGreatDoor
open Go.RowKit
set_option maxRecDepth 100000
set_option maxHeartbeats 8000000
theorem isTr_gen {w w' : World} {X : Nat → Prop} (hb : But X w w') (hX : ∀ g, X g → ∀ f, ¬ RowIs w g 318 9 f) : ∀ {t : Tr} {v : Value}, IsTr w v t → IsTr w' v t
 | ⟨none⟩, _, h => h
 | ⟨some (_,_,_,_)⟩, _, h => by
  obtain ⟨b, vl, vr, e, hr, hl, hrr⟩ := h
  exact ⟨b, vl, vr, e, hr.but hb (fun q => hX b q _ hr), isTr_gen hb hX hl, isTr_gen hb hX hrr⟩
theorem BookIs.moved {w w' : World} {X : Nat → Prop} {b : Nat} {st cl ss : Int} {top vW vK : Value} {t : Tr} {ws : List Opn} (h : BookIs w b st cl ss top vW vK t ws) (hb : But X w w') (h1 : ¬ X b) (h2 : ∀ g, vW.ownBlock = some g → ¬ X g) (hX : ∀ g, X g → ∀ f, ¬ RowIs w g 318 9 f) (hG : ∀ g, X g → 15 ≤ g) : BookIs w' b st cl ss top vW vK t ws :=
 ⟨h.row.but hb h1, isTr_gen hb hX h.tree, own_frame h.own fun g hg => hb.block g (World.ownsRow.lt h.own g hg).2 (h2 g hg), h.typ, h.wtyp, h.wlen, h.size, h.env.but hb hG (by have := h.row.lt; have := h.far; omega), h.far, h.wfar⟩
theorem RefIs.moved {w w' : World} {X : Nat → Prop} {b : Nat} {cl : Int} {vL vW : Value} {ss : Int} {dn : Bool} {vK : Value} {os ws : List Opn} (h : RefIs w b cl vL vW ss dn vK os ws) (hb : But X w w') (h1 : ¬ X b) (h2 : ∀ g, vL.ownBlock = some g → ¬ X g) (h3 : ∀ g, vW.ownBlock = some g → ¬ X g) : RefIs w' b cl vL vW ss dn vK os ws :=
 ⟨h.row.but hb h1, own_frame h.hL fun g hg => hb.block g (World.ownsRow.lt h.hL g hg).2 (h2 g hg), own_frame h.hW fun g hg => hb.block g (World.ownsRow.lt h.hW g hg).2 (h3 g hg)⟩
def pl2 (xb rb : Nat) : Nat → Value
 | 0 => .pointer (some ⟨xb, 0, none⟩)
 | _ => .pointer (some ⟨rb, 0, none⟩)
structure PlyIs (w : World) (pb xb rb : Nat) (cl ss : Int) (top vW vK : Value) (t : Tr) (ws : List Opn) (vL vR : Value) : Prop where
 row : RowIs w pb 150 2 (pl2 xb rb)
 book : BookIs w xb 0 cl ss top vW vK t ws
 ref : RefIs w rb cl vL vR 0 false (.slice none 0 0) t.list ws
 ok : BookOk t.list ws
 cl' : 1 ≤ cl ∧ cl ≤ 1048575
 apart : ∀ g, vW.ownBlock = some g → vR.ownBlock ≠ some g
 pfar : 15 ≤ pb
 rfar : 15 ≤ rb
def plyG (pb xb rb : Nat) (vW vL vR : Value) (g : Nat) : Prop := g = pb ∨ g = xb ∨ g = rb ∨ vW.ownBlock = some g ∨ vL.ownBlock = some g ∨ vR.ownBlock = some g
def Ply (w : World) (pb : Nat) (G : Nat → Prop) : Prop := ∃ xb rb cl ss top vW vK t ws vL vR, PlyIs w pb xb rb cl ss top vW vK t ws vL vR ∧ ∀ g, plyG pb xb rb vW vL vR g → G g
theorem Ply.moved {w w' : World} {X G : Nat → Prop} {pb : Nat} (h : Ply w pb G) (hb : But X w w') (hXG : ∀ g, X g → ¬ G g) (hX : ∀ g, X g → ∀ f, ¬ RowIs w g 318 9 f) (hG : ∀ g, X g → 15 ≤ g) : Ply w' pb G := by
 obtain ⟨xb, rb, cl, ss, top, vW, vK, t, ws, vL, vR, p, hg⟩ := h
 refine ⟨xb, rb, cl, ss, top, vW, vK, t, ws, vL, vR, ⟨p.row.but hb fun q => hXG _ q (hg _ (Or.inl rfl)), p.book.moved hb (fun q => hXG _ q (hg _ (Or.inr (Or.inl rfl)))) (fun g e q => hXG _ q (hg _ (Or.inr (Or.inr (Or.inr (Or.inl e)))))) hX hG, p.ref.moved hb (fun q => hXG _ q (hg _ (Or.inr (Or.inr (Or.inl rfl))))) (fun g e q => hXG _ q (hg _ (Or.inr (Or.inr (Or.inr (Or.inr (Or.inl e))))))) (fun g e q => hXG _ q (hg _ (Or.inr (Or.inr (Or.inr (Or.inr (Or.inr e))))))), p.ok, p.cl', p.apart, p.pfar, p.rfar⟩, hg⟩
theorem Ply.below {w w' : World} {G : Nat → Prop} {pb : Nat} (h : Ply w pb G) (hb : Below w.heap.size w w') : Ply w' pb G := h.moved (X := fun _ => False) (But.below hb) (fun _ q => q.elim) (fun _ q => q.elim) (fun _ q => q.elim)
theorem noNode_row {w : World} {g T n : Nat} {f : Nat → Value} (h : RowIs w g T n f) (hT : T ≠ 318) : ∀ k, ¬ RowIs w g 318 9 k := fun _ h2 => hT (RowIs.type_eq h h2)
theorem noNode_own {w : World} {B e size n g : Nat} {v : Value} {xs : List Value} (h : w.ownsRow B e size v n xs) (he : e ≠ 318) (hg : v.ownBlock = some g) : ∀ k, ¬ RowIs w g 318 9 k := fun k h2 => by
 rcases h.2 with ⟨q, _⟩ | ⟨g', cap, cur, q, _, q2, _⟩
 ·rw [q] at hg; cases hg
 ·rw [q] at hg
  cases hg
  unfold RowIs at h2
  rw [q2] at h2
  simp only [Option.some.injEq, Obj.cells.injEq] at h2
  exact he h2.2.1
structure PMove (w w' : World) (pb : Nat) (G : Nat → Prop) : Prop where
 ply : ∃ G', Ply w' pb G' ∧ ∀ g, G' g → G g ∨ w.heap.size ≤ g
 but : ∃ X, But X w w' ∧ (∀ g, X g → G g) ∧ (∀ g, X g → ∀ f, ¬ RowIs w g 318 9 f)
theorem own_two {w : World} {B C e size n e2 size2 n2 : Nat} {v u : Value} {xs ys : List Value} (h : w.ownsRow B e size v n xs) (k : w.ownsRow C e2 size2 u n2 ys) (hne : e ≠ e2) {g : Nat} (hg : v.ownBlock = some g) : u.ownBlock ≠ some g := fun hu => by
 rcases h.2 with ⟨q, _⟩ | ⟨g', cap, cur, q, _, q2, _⟩
 ·rw [q] at hg; cases hg
 ·rcases k.2 with ⟨r, _⟩ | ⟨g2, cap2, cur2, r, _, r2, _⟩
  ·rw [r] at hu; cases hu
  ·rw [q] at hg; rw [r] at hu; cases hg; cases hu
   rw [q2] at r2
   simp only [Option.some.injEq, Obj.cells.injEq] at r2
   exact hne r2.2.1
theorem PlyIs.refX {w w0 w1 : World} {pb xb rb : Nat} {cl ss : Int} {top vW vK : Value} {t : Tr} {ws : List Opn} {vL vR : Value} (p : PlyIs w pb xb rb cl ss top vW vK t ws vL vR) (hb : Below w.heap.size w w0) (h1 : But (fun x => x = xb ∨ vW.ownBlock = some x) w0 w1) : RefIs w1 rb cl vL vR 0 false (.slice none 0 0) t.list ws := by
 have p0 := p.ref.below hb
 have b0 := p.book.below hb
 refine p0.moved h1 (fun e => ?_) (fun g hg e => ?_) (fun g hg e => ?_)
 ·rcases e with e | e
  ·exact absurd (RowIs.type_eq b0.row (e ▸ p0.row)) (by decide)
  ·exact ref_apart p0.row b0.own (by decide) e rfl
 ·rcases e with e | e
  ·exact ref_apart b0.row p0.hL (by decide) hg e
  ·exact own_two b0.own p0.hL (by decide) e hg
 ·rcases e with e | e
  ·exact ref_apart b0.row p0.hW (by decide) hg e
  ·exact p.apart g e hg
theorem PlyIs.rowX {w w0 w1 : World} {pb xb rb : Nat} {cl ss : Int} {top vW vK : Value} {t : Tr} {ws : List Opn} {vL vR : Value} (p : PlyIs w pb xb rb cl ss top vW vK t ws vL vR) (hb : Below w.heap.size w w0) (h1 : But (fun x => x = xb ∨ vW.ownBlock = some x) w0 w1) : RowIs w1 pb 150 2 (pl2 xb rb) := by
 have r0 := p.row.below hb p.row.lt
 have b0 := p.book.below hb
 refine r0.but h1 fun e => ?_
 rcases e with e | e
 ·exact absurd (RowIs.type_eq b0.row (e ▸ r0)) (by decide)
 ·exact ref_apart r0 b0.own (by decide) e rfl
theorem AddP.but {b : Nat} {st cl ss : Int} {vK vW : Value} {R : Tr × List Opn} {w w' : World} (h : AddP b st cl ss vK vW R w w') : But (fun x => x = b ∨ vW.ownBlock = some x) w w' := by
 obtain ⟨_, _, _, _, k⟩ := h
 exact k
theorem PlyIs.write {w w0 w1 w2 w3 : World} {pb xb rb : Nat} {cl ss : Int} {top vW vK : Value} {t : Tr} {ws : List Opn} {vL vR : Value} (p : PlyIs w pb xb rb cl ss top vW vK t ws vL vR) {G : Nat → Prop} (hG : ∀ g, plyG pb xb rb vW vL vR g → G g) {R : Tr × List Opn} {R' : List Opn × List Opn} (hb : Below w.heap.size w w0) (h1 : AddP xb 0 cl ss vK vW R w0 w1) (hb2 : Below w1.heap.size w1 w2) (h3 : RefP rb cl 0 false (.slice none 0 0) vL vR R' w2 w3) (e1 : R.1.list = R'.1) (e2 : R.2 = R'.2) (hok : BookOk R'.1 R'.2) : PMove w w3 pb G := by
 have hk := h1.but
 have hr1 := p.rowX hb hk
 obtain ⟨top1, v1, B1, l1, k1⟩ := h1
 obtain ⟨l', r', Rf, m1, m2, k3⟩ := h3
 have hs := hb.size
 have hs1 := k1.size
 have hs2 := hb2.size
 have hvW : ∀ g, vW.ownBlock = some g → g < w.heap.size := fun g e => (World.ownsRow.lt p.book.own g e).2
 have hvR : ∀ g, vR.ownBlock = some g → g < w.heap.size := fun g e => (World.ownsRow.lt p.ref.hW g e).2
 have B2 := B1.below hb2
 have r2 := hr1.below hb2 hr1.lt
 have f2 := (p.refX hb hk).below hb2
 have hxr : xb ≠ rb := fun e => absurd (RowIs.type_eq B2.row (e ▸ f2.row)) (by decide)
 have hpr : pb ≠ rb := fun e => absurd (RowIs.type_eq r2 (e ▸ f2.row)) (by decide)
 have hpx : pb ≠ xb := fun e => absurd (RowIs.type_eq r2 (e ▸ B2.row)) (by decide)
 have B3 : BookIs w3 xb 0 cl ss top1 v1 vK R.1 R.2 := B2.moved k3 hxr (fun g e q => ref_apart f2.row B2.own (by decide) e q) (fun g q => by rw [q]; exact noNode_row f2.row (by decide)) (fun g q => by rw [q]; exact p.rfar)
 refine ⟨⟨plyG pb xb rb v1 l' r', ⟨xb, rb, cl, ss, top1, v1, vK, R.1, R.2, l', r', ⟨r2.but k3 hpr, B3, by rw [e1, e2]; exact Rf, by rw [e1, e2]; exact hok, p.cl', fun g e q => ?_, p.pfar, p.rfar⟩, fun g q => q⟩, fun g q => ?_⟩, fun x => x = xb ∨ vW.ownBlock = some x ∨ x = rb, ?_, fun g q => ?_, fun g q => ?_⟩
 ·have v1lt := (World.ownsRow.lt B1.own g e).2
  rcases l1 with a | ⟨g1, a, a2⟩ <;> rcases m2 g q with c | c
  ·exact p.apart g (a ▸ e) c
  ·have := hvW g (a ▸ e); omega
  ·rw [a] at e; cases e; have := hvR g c; omega
  ·omega
 ·rcases q with q | q | q | q | q | q
  ·exact Or.inl (hG g (Or.inl q))
  ·exact Or.inl (hG g (Or.inr (Or.inl q)))
  ·exact Or.inl (hG g (Or.inr (Or.inr (Or.inl q))))
  ·rcases l1 with a | ⟨g1, a, a2⟩
   ·exact Or.inl (hG g (Or.inr (Or.inr (Or.inr (Or.inl (a ▸ q))))))
   ·rw [a] at q; cases q; exact Or.inr (by omega)
  ·rcases m1 g q with c | c
   ·exact Or.inl (hG g (Or.inr (Or.inr (Or.inr (Or.inr (Or.inl c))))))
   ·exact Or.inr (by omega)
  ·rcases m2 g q with c | c
   ·exact Or.inl (hG g (Or.inr (Or.inr (Or.inr (Or.inr (Or.inr c))))))
   ·exact Or.inr (by omega)
 ·exact (((But.below hb).trans (k1.mono fun x e => e.via id Or.inl)).trans (But.below hb2)).trans (k3.mono fun x e => Or.inr (Or.inr e))
 ·rcases q with q | q | q
  ·exact hG g (Or.inr (Or.inl q))
  ·exact hG g (Or.inr (Or.inr (Or.inr (Or.inl q))))
  ·exact hG g (Or.inr (Or.inr (Or.inl q)))
 ·rcases q with q | q | q
  ·rw [q]; exact noNode_row p.book.row (by decide)
  ·exact noNode_own p.book.own (by decide) q
  ·rw [q]; exact noNode_row p.ref.row (by decide)
theorem BookIs.held {w w' : World} {b : Nat} {cl ss : Int} {top vW vK : Value} {t : Tr} {ws : List Opn} (h : BookIs w b 0 cl ss top vW vK t ws) (hr : RowIs w' b 118 7 (rep7 0 cl top vW ss vK)) (hb : But (fun x => x = b) w w') : BookIs w' b 0 cl ss top vW vK t ws :=
 ⟨hr, isTr_but h.row (by decide) hb h.tree, own_frame h.own fun g hg => hb.block g (World.ownsRow.lt h.own g hg).2 fun e => h.apart hg e, h.typ, h.wtyp, h.wlen, h.size, h.env.but hb (fun x e => e ▸ h.far) (by have := h.row.lt; have := h.far; omega), h.far, h.wfar⟩
theorem PlyIs.held {w w0 w1 : World} {pb xb rb : Nat} {cl ss : Int} {top vW vK : Value} {t : Tr} {ws : List Opn} {vL vR : Value} (p : PlyIs w pb xb rb cl ss top vW vK t ws vL vR) (hb : Below w.heap.size w w0) (hr : RowIs w1 xb 118 7 (rep7 0 cl top vW ss vK)) (hk : But (fun x => x = xb) w0 w1) : PlyIs w1 pb xb rb cl ss top vW vK t ws vL vR :=
 ⟨p.rowX hb (hk.mono fun _ => Or.inl), (p.book.below hb).held hr hk, p.refX hb (hk.mono fun _ => Or.inl), p.ok, p.cl', p.apart, p.pfar, p.rfar⟩
theorem PlyIs.below {w w' : World} {pb xb rb : Nat} {cl ss : Int} {top vW vK : Value} {t : Tr} {ws : List Opn} {vL vR : Value} (p : PlyIs w pb xb rb cl ss top vW vK t ws vL vR) (hb : Below w.heap.size w w') : PlyIs w' pb xb rb cl ss top vW vK t ws vL vR :=
 ⟨p.row.below hb p.row.lt, p.book.below hb, p.ref.below hb, p.ok, p.cl', p.apart, p.pfar, p.rfar⟩
theorem PlyIs.look {w w' : World} {pb xb rb : Nat} {cl ss : Int} {top vW vK : Value} {t : Tr} {ws : List Opn} {vL vR : Value} (p : PlyIs w pb xb rb cl ss top vW vK t ws vL vR) (p' : PlyIs w' pb xb rb cl ss top vW vK t ws vL vR) {G : Nat → Prop} (hG : ∀ g, plyG pb xb rb vW vL vR g → G g) (hb : But (fun x => x = xb) w w') : PMove w w' pb G :=
 ⟨⟨G, ⟨xb, rb, cl, ss, top, vW, vK, t, ws, vL, vR, p', hG⟩, fun _ => Or.inl⟩, fun x => x = xb, hb, fun g q => hG g (Or.inr (Or.inl q)), fun g q => by rw [q]; exact noNode_row p.book.row (by decide)⟩
theorem Ply.lt {w : World} {G : Nat → Prop} {pb : Nat} (h : Ply w pb G) : Ply w pb (fun g => G g ∧ g < w.heap.size) := by
 obtain ⟨xb, rb, cl, ss, top, vW, vK, t, ws, vL, vR, p, hg⟩ := h
 refine ⟨xb, rb, cl, ss, top, vW, vK, t, ws, vL, vR, p, fun g q => ⟨hg g q, ?_⟩⟩
 rcases q with q | q | q | q | q | q
 ·rw [q]; exact p.row.lt
 ·rw [q]; exact p.book.row.lt
 ·rw [q]; exact p.ref.row.lt
 ·exact (World.ownsRow.lt p.book.own g q).2
 ·exact (World.ownsRow.lt p.ref.hL g q).2
 ·exact (World.ownsRow.lt p.ref.hW g q).2
theorem WOk.but {w w' : World} {wd : Nat} {R : Nat → Int} {vP vH : Value} {F X : Nat → Prop} {hs : List Nat} (h : WOk w wd R vP vH F hs) (hb : But X w w') (h1 : ¬ X wd) (h2 : ∀ g, vH.ownBlock = some g → ¬ X g) (h3 : ∀ g, F g → ¬ X g) : WOk w' wd R vP vH F hs :=
 ⟨h.row.but hb h1, own_frame h.own fun g hg => hb.block g (h.own.lt g hg).2 (h2 g hg), fun x hx => by
  obtain ⟨mk, nb, no, nl, k⟩ := h.holds x hx
  exact ⟨mk, nb, no, nl, k.frame fun g hg => hb.block g (h.below g hg) (h3 g hg)⟩, h.apart, fun g hg => Nat.lt_of_lt_of_le (h.below g hg) hb.size⟩
structure WW (B : Nat) (w : World) (wd : Nat) (vP vH : Value) (F : Nat → Prop) (hs ps : List Nat) (Gs : Nat → Nat → Prop) : Prop where
 ok : WOk w wd RV vP vH F hs
 own : w.ownsRow 0 147 1 vP ps.length (ptrs ps)
 len : ps.length ≤ 4
 ply : ∀ i (h : i < ps.length), Ply w ps[i] (Gs i)
 apart : ∀ i j, i < ps.length → j < ps.length → i ≠ j → ∀ g, Gs i g → ¬ Gs j g
 out : ∀ i, i < ps.length → ∀ g, Gs i g → ¬ F g ∧ g ≠ wd ∧ vH.ownBlock ≠ some g ∧ vP.ownBlock ≠ some g ∧ g < w.heap.size ∧ B ≤ g
 pout : ∀ g, vP.ownBlock = some g → ¬ F g ∧ g ≠ wd ∧ vH.ownBlock ≠ some g
 far : B ≤ wd ∧ (∀ g, vH.ownBlock = some g → B ≤ g) ∧ ∀ g, vP.ownBlock = some g → B ≤ g
 base : 15 ≤ B
 env : Env w
theorem WW.le {w : World} {wd : Nat} {vP vH : Value} {F : Nat → Prop} {hs ps : List Nat} {Gs : Nat → Nat → Prop} {B : Nat} (h : WW B w wd vP vH F hs ps Gs) : B ≤ w.heap.size := by have := h.ok.row.lt; have := h.far.1; omega
theorem WW.glob {w : World} {wd : Nat} {vP vH : Value} {F : Nat → Prop} {hs ps : List Nat} {Gs : Nat → Nat → Prop} {B : Nat} (h : WW B w wd vP vH F hs ps Gs) : 15 ≤ w.heap.size := by have := h.ok.row.lt; have := h.far.1; have := h.base; omega
theorem WW.below {w w' : World} {wd : Nat} {vP vH : Value} {F : Nat → Prop} {hs ps : List Nat} {Gs : Nat → Nat → Prop} {B : Nat} (h : WW B w wd vP vH F hs ps Gs) (hb : Below w.heap.size w w') : WW B w' wd vP vH F hs ps Gs :=
 ⟨h.ok.grown hb, own_frame h.own fun g hg => hb.block g (h.own.lt g hg).2, h.len, fun i hi => (h.ply i hi).below hb, h.apart, fun i hi g q => by
  obtain ⟨a, b, c, d, e, f⟩ := h.out i hi g q
  exact ⟨a, b, c, d, Nat.lt_of_lt_of_le e hb.size, f⟩, h.pout, h.far, h.base, h.env.below hb⟩
theorem WW.move {w w' : World} {wd : Nat} {vP vH : Value} {F : Nat → Prop} {hs ps : List Nat} {Gs : Nat → Nat → Prop} {B : Nat} (h : WW B w wd vP vH F hs ps Gs) {i : Nat} (hi : i < ps.length) (m : PMove w w' ps[i] (Gs i)) : ∃ Gs', WW B w' wd vP vH F hs ps Gs' ∧ Below B w w' := by
 obtain ⟨⟨G', hp, hg⟩, X, hX, hXG, hN⟩ := m
 have hgl := h.glob
 have hle := h.le
 have hs := hX.size
 have hne : ∀ g, X g → ¬ F g ∧ g ≠ wd ∧ vH.ownBlock ≠ some g ∧ vP.ownBlock ≠ some g ∧ g < w.heap.size ∧ B ≤ g := fun g q => h.out i hi g (hXG g q)
 have hvP : ∀ g, vP.ownBlock = some g → g < w.heap.size := fun g e => (h.own.lt g e).2
 have hvH : ∀ g, vH.ownBlock = some g → g < w.heap.size := fun g e => (h.ok.own.lt g e).2
 have hwd := h.ok.row.lt
 have hgx : ∀ g, X g → 15 ≤ g := fun g q => Nat.le_trans h.base (hne g q).2.2.2.2.2
 refine ⟨fun j g => if j = i then G' g ∧ g < w'.heap.size else Gs j g, ⟨h.ok.but hX (fun q => (hne _ q).2.1 rfl) (fun g e q => (hne _ q).2.2.1 e) (fun g e q => (hne _ q).1 e), own_frame h.own fun g e => hX.block g (hvP g e) fun q => (hne _ q).2.2.2.1 e, h.len, fun j hj => ?_, fun j k hj hk hjk g q => ?_, fun j hj g q => ?_, h.pout, h.far, h.base, h.env.but hX hgx hgl⟩, ⟨hX.os, hX.tape, hX.output, hX.size, fun k hk => hX.block k (by omega) fun q => by have := (hne k q).2.2.2.2.2; omega⟩⟩
 ·by_cases e : j = i
  ·subst e
   simp only [if_true]
   exact hp.lt
  ·simp only [if_neg e]
   exact (h.ply j hj).moved hX (fun g q => h.apart i j hi hj (fun e2 => e e2.symm) g (hXG g q)) hN hgx
 ·by_cases e : j = i
  ·subst e
   have e2 : ¬ k = j := fun e => hjk e.symm
   simp only [if_true] at q
   simp only [if_neg e2]
   rcases hg g q.1 with a | a
   ·exact h.apart j k hj hk hjk g a
   ·exact fun c => by have := (h.out k hk g c).2.2.2.2.1; omega
  ·simp only [if_neg e] at q
   by_cases e2 : k = i
   ·subst e2
    simp only [if_true]
    intro c
    rcases hg g c.1 with a | a
    ·exact h.apart j k hj hk hjk g q a
    ·have := (h.out j hj g q).2.2.2.2.1; omega
   ·simp only [if_neg e2]
    exact h.apart j k hj hk hjk g q
 ·by_cases e : j = i
  ·subst e
   simp only [if_true] at q
   rcases hg g q.1 with a | a
   ·obtain ⟨c1, c2, c3, c4, -, c6⟩ := h.out j hj g a
    exact ⟨c1, c2, c3, c4, q.2, c6⟩
   ·exact ⟨fun c => by have := h.ok.below g c; omega, by omega, fun c => by have := hvH g c; omega, fun c => by have := hvP g c; omega, q.2, by omega⟩
  ·simp only [if_neg e] at q
   obtain ⟨c1, c2, c3, c4, c5, c6⟩ := h.out j hj g q
   exact ⟨c1, c2, c3, c4, by omega, c6⟩
theorem WW.kept {w w' : World} {wd : Nat} {vP vH vH' : Value} {F F' : Nat → Prop} {hs hs' ps : List Nat} {Gs : Nat → Nat → Prop} {B : Nat} (h : WW B w wd vP vH F hs ps Gs) (hk : WOk w' wd RV vP vH' F' hs') (hH : ∀ b, vH'.ownBlock = some b → vH.ownBlock = some b ∨ w.heap.size ≤ b) (hF : ∀ b, F' b → F b ∨ w.heap.size ≤ b) (hb : But (fun b => b = wd ∨ vH.ownBlock = some b) w w') : WW B w' wd vP vH' F' hs' ps Gs ∧ Below B w w' := by
 have hgl := h.glob
 have hle := h.le
 have hvP : ∀ g, vP.ownBlock = some g → g < w.heap.size := fun g e => (h.own.lt g e).2
 have hXB : ∀ g, (g = wd ∨ vH.ownBlock = some g) → B ≤ g := fun g q => by
  rcases q with q | q
  ·rw [q]; exact h.far.1
  ·exact h.far.2.1 g q
 have hX : ∀ g, (g = wd ∨ vH.ownBlock = some g) → 15 ≤ g := fun g q => Nat.le_trans h.base (hXB g q)
 have hN : ∀ g, (g = wd ∨ vH.ownBlock = some g) → ∀ f, ¬ RowIs w g 318 9 f := fun g q => by
  rcases q with q | q
  ·rw [q]; exact noNode_row h.ok.row (by decide)
  ·exact noNode_own h.ok.own (by decide) q
 refine ⟨⟨hk, own_frame h.own fun g e => hb.block g (hvP g e) fun q => ?_, h.len, fun i hi => (h.ply i hi).moved hb (fun g q k => ?_) hN hX, h.apart, fun i hi g q => ?_, fun g q => ?_, ⟨h.far.1, fun g q => ?_, h.far.2.2⟩, h.base, h.env.but hb hX hgl⟩, ⟨hb.os, hb.tape, hb.output, hb.size, fun k hk => hb.block k (by omega) fun q => by have := hXB k q; omega⟩⟩
 ·rcases q with q | q
  ·exact (h.pout g e).2.1 q
  ·exact (h.pout g e).2.2 q
 ·obtain ⟨c1, c2, c3, -⟩ := h.out i hi g k
  rcases q with q | q
  ·exact c2 q
  ·exact c3 q
 ·obtain ⟨c1, c2, c3, c4, c5, c6⟩ := h.out i hi g q
  refine ⟨fun c => ?_, c2, fun c => ?_, c4, Nat.lt_of_lt_of_le c5 hb.size, c6⟩
  ·rcases hF g c with a | a
   ·exact c1 a
   ·omega
  ·rcases hH g c with a | a
   ·exact c3 a
   ·omega
 ·obtain ⟨c1, c2, c3⟩ := h.pout g q
  have := hvP g q
  refine ⟨fun c => ?_, c2, fun c => ?_⟩
  ·rcases hF g c with a | a
   ·exact c1 a
   ·omega
  ·rcases hH g c with a | a
   ·exact c3 a
   ·omega
 ·rcases hH g q with a | a
  ·exact h.far.2.1 g a
  ·omega
theorem But.grown {w w' : World} {v : Value} (h : w.grownBy w' v.ownBlock) : But (fun x => v.ownBlock = some x) w w' := ⟨h.size, h.os, h.tape, h.output, fun b hb hx => h.block b hb fun e => hx e.symm⟩
theorem world72 {w : World} {wd : Nat} {R : Nat → Int} {vP vH : Value} (h : RowIs w wd 90 74 (wcell R vP vH)) (v : Value) : RowIs (w.setCell ⟨wd, 72, none⟩ v) wd 90 74 (wcell R v vH) := (h.set 72 v).congr fun j _ => by
 by_cases e : j = 72
 ·subst e; rfl
 ·rw [if_neg e]; simp only [wcell, if_neg e]
theorem WW.join {w w1 w2 : World} {wd : Nat} {vP vH v' : Value} {F : Nat → Prop} {hs ps : List Nat} {Gs : Nat → Nat → Prop} {B : Nat} (h : WW B w wd vP vH F hs ps Gs) (hl : ps.length < 4) (hb : Below w.heap.size w w1) {pb : Nat} {G : Nat → Prop} (hp : Ply w1 pb G) (hG : ∀ g, G g → w.heap.size ≤ g ∧ g < w1.heap.size) (ho : w2.ownsRow 0 147 1 v' (ps.length + 1) (ptrs ps ++ [.pointer (some ⟨pb, 0, none⟩)])) (hg : w1.grownBy w2 vP.ownBlock) (hv : v'.ownBlock = vP.ownBlock ∨ v'.ownBlock = some w1.heap.size) : ∃ Gs', WW B (w2.setCell ⟨wd, 72, none⟩ v') wd v' vH F hs (ps ++ [pb]) Gs' ∧ Below B w (w2.setCell ⟨wd, 72, none⟩ v') := by
 have h1 := h.below hb
 have hgl := h.glob
 have hle := h.le
 have hs1 := hb.size
 have hk : But (fun x => vP.ownBlock = some x ∨ x = wd) w1 (w2.setCell ⟨wd, 72, none⟩ v') := ((But.grown hg).mono fun _ => Or.inl).trans ((But.set wd 72 v').mono fun _ => Or.inr)
 have hks := hk.size
 have hvP : ∀ g, vP.ownBlock = some g → g < w.heap.size := fun g e => (h.own.lt g e).2
 have hvH : ∀ g, vH.ownBlock = some g → g < w.heap.size := fun g e => (h.ok.own.lt g e).2
 have hwd := h.ok.row.lt
 have hXB : ∀ g, (vP.ownBlock = some g ∨ g = wd) → B ≤ g := fun g q => by
  rcases q with q | q
  ·exact h.far.2.2 g q
  ·rw [q]; exact h.far.1
 have hX : ∀ g, (vP.ownBlock = some g ∨ g = wd) → 15 ≤ g := fun g q => Nat.le_trans h.base (hXB g q)
 have hN : ∀ g, (vP.ownBlock = some g ∨ g = wd) → ∀ f, ¬ RowIs w1 g 318 9 f := fun g q => by
  rcases q with q | q
  ·exact noNode_own h1.own (by decide) q
  ·rw [q]; exact noNode_row h1.ok.row (by decide)
 have hwdg : ∀ g, v'.ownBlock = some g → g ≠ wd := fun g e => by
  rcases hv with a | a
  ·exact (h.pout g (a ▸ e)).2.1
  ·rw [a] at e; cases e; omega
 have hrow2 : RowIs w2 wd 90 74 (wcell RV vP vH) := h1.ok.row.but (But.grown hg) fun e => (h.pout wd e).2.1 rfl
 have hok : WOk (w2.setCell ⟨wd, 72, none⟩ v') wd RV v' vH F hs :=
  ⟨world72 hrow2 v', own_frame h1.ok.own fun g e => hk.block g (h1.ok.own.lt g e).2 fun q => by
   rcases q with q | q
   ·exact (h.pout g q).2.2 e
   ·exact (h.ok.apart.2 g e).2 q, fun x hx => by
   obtain ⟨mk, nb, no, nl, k⟩ := h1.ok.holds x hx
   refine ⟨mk, nb, no, nl, k.frame fun g hf => hk.block g (h1.ok.below g hf) fun q => ?_⟩
   rcases q with q | q
   ·exact (h.pout g q).1 hf
   ·exact h.ok.apart.1 (q ▸ hf), h.ok.apart, fun g hf => Nat.lt_of_lt_of_le (h1.ok.below g hf) hks⟩
 refine ⟨fun j g => if j = ps.length then G g else Gs j g, ⟨hok, ?_, by rw [List.length_append]; simp; omega, fun j hj => ?_, fun j k hj hk2 hjk g q => ?_, fun j hj g q => ?_, fun g e => ?_, ⟨h.far.1, h.far.2.1, fun g e => ?_⟩, h.base, h1.env.but hk hX (by omega)⟩, ⟨hk.os.trans hb.os, hk.tape.trans hb.tape, hk.output.trans hb.output, by omega, fun k hkk => (hk.block k (by omega) fun q => by have := hXB k q; omega).trans (hb.block k (by omega))⟩⟩
 ·rw [List.length_append]
  unfold ptrs at ho ⊢
  rw [List.map_append]
  exact own_frame ho fun g e => heap_setCell_other _ _ _ _ (fun q => hwdg g e q)
 ·rw [List.length_append, List.length_singleton] at hj
  by_cases e : j = ps.length
  ·subst e
   simp only [if_true]
   have : (ps ++ [pb])[ps.length]'(by simp) = pb := by simp
   rw [this]
   refine hp.moved hk (fun g q k => ?_) hN hX
   have := (hG g k).1
   rcases q with q | q
   ·have := hvP g q; omega
   ·omega
  ·have hj2 : j < ps.length := by omega
   simp only [if_neg e]
   rw [List.getElem_append_left hj2]
   refine (h1.ply j hj2).moved hk (fun g q k => ?_) hN hX
   obtain ⟨c1, c2, c3, c4, -⟩ := h.out j hj2 g k
   rcases q with q | q
   ·exact c4 q
   ·exact c2 q
 ·rw [List.length_append, List.length_singleton] at hj hk2
  by_cases e : j = ps.length
  ·subst e
   simp only [if_true] at q
   have e2 : ¬ k = ps.length := fun e => hjk e.symm
   simp only [if_neg e2]
   intro c
   have := (h.out k (by omega) g c).2.2.2.2.1
   have := (hG g q).1
   omega
  ·simp only [if_neg e] at q
   by_cases e2 : k = ps.length
   ·subst e2
    simp only [if_true]
    intro c
    have := (h.out j (by omega) g q).2.2.2.2.1
    have := (hG g c).1
    omega
   ·simp only [if_neg e2]
    exact h.apart j k (by omega) (by omega) hjk g q
 ·rw [List.length_append, List.length_singleton] at hj
  by_cases e : j = ps.length
  ·subst e
   simp only [if_true] at q
   obtain ⟨c1, c2⟩ := hG g q
   refine ⟨fun c => by have := h.ok.below g c; omega, by omega, fun c => by have := hvH g c; omega, fun c => ?_, by omega, by omega⟩
   rcases hv with a | a
   ·have := hvP g (a ▸ c); omega
   ·rw [a] at c; cases c; omega
  ·simp only [if_neg e] at q
   obtain ⟨c1, c2, c3, c4, c5, c6⟩ := h.out j (by omega) g q
   refine ⟨c1, c2, c3, fun c => ?_, by omega, c6⟩
   rcases hv with a | a
   ·exact c4 (a ▸ c)
   ·rw [a] at c; cases c; omega
 ·rcases hv with a | a
  ·exact h.pout g (a ▸ e)
  ·rw [a] at e; cases e
   exact ⟨fun c => by have := h.ok.below _ c; omega, by omega, fun c => by have := hvH _ c; omega⟩
 ·rcases hv with a | a
  ·exact h.far.2.2 g (a ▸ e)
  ·rw [a] at e; cases e; omega
theorem ply_new {w : World} {pb xb rb : Nat} {cl : Int} (hr : RowIs w pb 150 2 (pl2 xb rb)) (hx : RowIs w xb 118 7 (rep7 0 cl (.pointer none) (.slice none 0 0) 0 (.slice none 0 0))) (hf : RefIs w rb cl (.slice none 0 0) (.slice none 0 0) 0 false (.slice none 0 0) [] []) (hcl : 1 ≤ cl ∧ cl ≤ 1048575) (hE : Env w) (h1 : 15 ≤ pb) (h2 : 15 ≤ xb) (h3 : 15 ≤ rb) : Ply w pb (fun g => g = pb ∨ g = xb ∨ g = rb) :=
 ⟨xb, rb, cl, 0, .pointer none, .slice none 0 0, .slice none 0 0, .nil, [], .slice none 0 0, .slice none 0 0, ⟨hr, ⟨hx, rfl, ⟨rfl, Or.inl ⟨rfl, rfl⟩⟩, trivial, fun _ h => (by cases h), by decide, Nat.zero_le _, hE, h2, fun g e => (by cases e)⟩, hf, BookOk.nil, hcl, fun g e => (by cases e), h1, h3⟩, fun g q => by
  rcases q with q | q | q | q | q | q
  ·exact Or.inl q
  ·exact Or.inr (Or.inl q)
  ·exact Or.inr (Or.inr q)
  ·cases q
  ·cases q
  ·cases q⟩
end Go.Proofs.YtgccjefbedpmpaaGreatDoor

import Derived.Test.YtcjohccaigflgaaGreatDoorLonger
import Derived.Test.YtcjohccaigflgaaGreatDoorLooks
namespace Go.Proofs.YtcjohccaigflgaaGreatDoor
open Go.RowKit
/-- A hold of the family of one mark: it reads as marked, and where its lists share a block with the newest one's they are no longer than those. -/
structure Fam (w : World) (F : Nat → Prop) (x : Nat) (mk : Int) (V1 V2 V3 : Value) (n1 n2 n3 : Nat) : Prop where
  inF : F x
  row : ∃ vb vo vl nb no nl ls, RowIs w x 144 4 (hold4 vb vo vl mk) ∧
    (w.ownsRow 0 5 1 vb nb (signs mk nb) ∧ (∀ g, vb.ownBlock = some g → F g) ∧ ∀ g, vb.ownBlock = some g → V1.ownBlock = some g → nb ≤ n1) ∧
    (w.ownsRow 0 43 6 vo no (opms mk no) ∧ (∀ g, vo.ownBlock = some g → F g) ∧ ∀ g, vo.ownBlock = some g → V2.ownBlock = some g → no ≤ n2) ∧
    (w.ownsRow 0 59 1 vl nl ls ∧ (∀ g, vl.ownBlock = some g → F g) ∧ ∀ g, vl.ownBlock = some g → V3.ownBlock = some g → nl ≤ n3) ∧
    ∀ v ∈ ls, ListOk w (fun b => F b ∧ ¬ ownX V1 V2 V3 b) mk v
theorem ListOk.mono {w : World} {F F' : Nat → Prop} {mk : Int} {v : Value} (h : ListOk w F mk v) (hF : ∀ b, F b → F' b) : ListOk w F' mk v := h.frame hF fun _ _ => rfl
theorem Fam.ok {w : World} {F : Nat → Prop} {x : Nat} {mk : Int} {V1 V2 V3 : Value} {n1 n2 n3 : Nat} (h : Fam w F x mk V1 V2 V3 n1 n2 n3) (hp : 0 ≤ mk ∧ mk ≤ 9223372036854775807) : ∃ nb no nl, HoldOk w F x mk nb no nl := by
  obtain ⟨vb, vo, vl, nb, no, nl, ls, h1, h2, h3, h4, h5⟩ := h.row
  exact ⟨nb, no, nl, h.inF, hp, vb, vo, vl, ls, h1, ⟨h2.1, h2.2.1⟩, ⟨h3.1, h3.2.1⟩, ⟨h4.1, h4.2.1⟩, fun v hv => (h5 v hv).mono fun _ e => e.1⟩
theorem Fam.frame {w w' : World} {F F' : Nat → Prop} {x : Nat} {mk : Int} {V1 V2 V3 : Value} {n1 n2 n3 : Nat} (h : Fam w F x mk V1 V2 V3 n1 n2 n3) (hF : ∀ b, F b → F' b) (hf : ∀ b, F b → w'.heap[b]? = w.heap[b]?) : Fam w' F' x mk V1 V2 V3 n1 n2 n3 := by
  obtain ⟨vb, vo, vl, nb, no, nl, ls, h1, h2, h3, h4, h5⟩ := h.row
  exact ⟨hF _ h.inF, vb, vo, vl, nb, no, nl, ls, (hf _ h.inF).trans h1, ⟨own_frame h2.1 fun g hg => hf g (h2.2.1 g hg), fun g hg => hF g (h2.2.1 g hg), h2.2.2⟩,
    ⟨own_frame h3.1 fun g hg => hf g (h3.2.1 g hg), fun g hg => hF g (h3.2.1 g hg), h3.2.2⟩, ⟨own_frame h4.1 fun g hg => hf g (h4.2.1 g hg), fun g hg => hF g (h4.2.1 g hg), h4.2.2⟩,
    fun v hv => (h5 v hv).frame (fun b e => ⟨hF b e.1, e.2⟩) fun b e => hf b e.1⟩
theorem Fam.of_raw {w : World} {F : Nat → Prop} {x : Nat} {mk : Int} {V1 V2 V3 : Value} {n1 n2 n3 : Nat} {ls : List Value} (h : HoldRaw w x mk V1 V2 V3 n1 n2 n3 (signs mk n1) (opms mk n2) ls) (hx : F x) (hV : ∀ b, ownX V1 V2 V3 b → F b) (hl : ∀ v ∈ ls, ListOk w (fun b => F b ∧ ¬ ownX V1 V2 V3 b) mk v) :
    Fam w F x mk V1 V2 V3 n1 n2 n3 :=
  ⟨hx, V1, V2, V3, n1, n2, n3, ls, h.row, ⟨h.ob, fun g hg => hV g (Or.inl hg), fun _ _ _ => Nat.le_refl _⟩, ⟨h.oo, fun g hg => hV g (Or.inr (Or.inl hg)), fun _ _ _ => Nat.le_refl _⟩, ⟨h.ol, fun g hg => hV g (Or.inr (Or.inr hg)), fun _ _ _ => Nat.le_refl _⟩, hl⟩
theorem row_notX {w : World} {g : Nat} {mk : Int} {V1 V2 V3 : Value} {n1 n2 n3 : Nat} {xb xo xl : List Value} (hr : HoldRaw w g mk V1 V2 V3 n1 n2 n3 xb xo xl) {x t k : Nat} {f : Nat → Value} (h : RowIs w x t k f) (h1 : 5 ≠ t) (h2 : 43 ≠ t) (h3 : 59 ≠ t) : ¬ ownX V1 V2 V3 x := fun e => by
  rcases e with e | e | e
  · exact row_apart hr.ob h h1 e rfl
  · exact row_apart hr.oo h h2 e rfl
  · exact row_apart hr.ol h h3 e rfl
theorem Mid.notX {w w' : World} {mk : Int} {vb vo vl : Value} {nb no nl : Nat} {V1 V2 V3 : Value} (m : Mid w w' mk vb vo vl nb no nl V1 V2 V3) {b : Nat} (hb : b ≤ w.heap.size + 1) (h : ¬ ownX vb vo vl b) : ¬ ownX V1 V2 V3 b := fun e => by
  rcases e with e | e | e
  · rcases m.lie1 b e with e | e
    · exact h (Or.inl e)
    · omega
  · rcases m.lie2 b e with e | e
    · exact h (Or.inr (Or.inl e))
    · omega
  · rcases m.lie3 b e with e | e
    · exact h (Or.inr (Or.inr e))
    · omega
theorem Mid.lists {w w' : World} {F F' : Nat → Prop} {mk : Int} {V1 V2 V3 U1 U2 U3 : Value} {n1 n2 n3 : Nat} (m : Mid w w' mk V1 V2 V3 n1 n2 n3 U1 U2 U3) (hF : ∀ b, F b → F' b) (hFw : ∀ b, F b → b < w.heap.size) {v : Value} (h : ListOk w (fun b => F b ∧ ¬ ownX V1 V2 V3 b) mk v) :
    ListOk w' (fun b => F' b ∧ ¬ ownX U1 U2 U3 b) mk v :=
  h.frame (fun b e => ⟨hF b e.1, m.notX (by have := hFw b e.1; omega) e.2⟩) fun b e => m.kept.but.block b (hFw b e.1) e.2
theorem Fam.step {w w' : World} {F F' : Nat → Prop} {x g : Nat} {mk : Int} {V1 V2 V3 U1 U2 U3 : Value} {n1 n2 n3 : Nat} {xb xo xl : List Value} (h : Fam w F x mk V1 V2 V3 n1 n2 n3) (hr : HoldRaw w g mk V1 V2 V3 n1 n2 n3 xb xo xl) (m : Mid w w' mk V1 V2 V3 n1 n2 n3 U1 U2 U3)
    (hF : ∀ b, F b → F' b) (hFw : ∀ b, F b → b < w.heap.size) : Fam w' F' x mk U1 U2 U3 (n1 + 1) (n2 + 1) (n3 + 1) := by
  obtain ⟨vb, vo, vl, nb, no, nl, ls, h1, h2, h3, h4, h5⟩ := h.row
  have key : ∀ {u v : Value} {n e' s' n' : Nat} {e s : Nat} {ys zs : List Value} {A : Prop}, w.ownsRow 0 e s u n ys → w.ownsRow 0 e' s' v n' zs → e ≠ e' → u.ownBlock ≠ none → u.ownBlock = v.ownBlock → A := fun {u} _ _ _ _ _ _ _ _ _ _ a b c d f => by
    cases hg : u.ownBlock with
    | none => exact absurd hg d
    | some y => exact absurd (f.symm.trans hg) (own_apart a b c hg)
  refine ⟨hF _ h.inF, vb, vo, vl, nb, no, nl, ls, h1.but m.kept.but (row_notX hr h1 (by decide) (by decide) (by decide)), ⟨m.kept.own _ _ _ _ _ h2.1 ?_ (key h2.1 hr.oo (by decide)) (key h2.1 hr.ol (by decide)), fun y hy => hF y (h2.2.1 y hy), ?_⟩,
    ⟨m.kept.own _ _ _ _ _ h3.1 (key h3.1 hr.ob (by decide)) ?_ (key h3.1 hr.ol (by decide)), fun y hy => hF y (h3.2.1 y hy), ?_⟩, ⟨m.kept.own _ _ _ _ _ h4.1 (key h4.1 hr.ob (by decide)) (key h4.1 hr.oo (by decide)) ?_, fun y hy => hF y (h4.2.1 y hy), ?_⟩, fun v hv => m.lists hF hFw (h5 v hv)⟩
  · intro a b
    cases hg : vb.ownBlock with
    | none => exact absurd hg a
    | some y => exact ⟨rfl, rfl, h2.2.2 y hg (b.symm.trans hg)⟩
  · intro y hy hU
    rcases m.lie1 y hU with e | e
    · have := h2.2.2 y hy e; omega
    · have := (h2.1.lt y hy).2; omega
  · intro a b
    cases hg : vo.ownBlock with
    | none => exact absurd hg a
    | some y => exact ⟨rfl, rfl, h3.2.2 y hg (b.symm.trans hg)⟩
  · intro y hy hU
    rcases m.lie2 y hU with e | e
    · have := h3.2.2 y hy e; omega
    · have := (h3.1.lt y hy).2; omega
  · intro a b
    cases hg : vl.ownBlock with
    | none => exact absurd hg a
    | some y => exact ⟨rfl, rfl, h4.2.2 y hg (b.symm.trans hg)⟩
  · intro y hy hU
    rcases m.lie3 y hU with e | e
    · have := h4.2.2 y hy e; omega
    · have := (h4.1.lt y hy).2; omega
end Go.Proofs.YtcjohccaigflgaaGreatDoor

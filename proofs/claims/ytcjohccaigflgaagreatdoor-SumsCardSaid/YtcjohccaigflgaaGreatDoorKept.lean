import Derived.Test.YtcjohccaigflgaaGreatDoorApp
import Derived.Test.YtcjohccaigflgaaGreatDoorMarks
namespace Go.Proofs.YtcjohccaigflgaaGreatDoor
open Go.RowKit
theorem infoB : (Tryz.prog.info? 5).map (fun i => (i.zero, i.size, i.bytes)) = some (some (.int .u8 0), 1, 1) := by kernel_rfl
theorem infoO : (Tryz.prog.info? 43).map (fun i => (i.zero, i.size, i.bytes)) = some (some (.agg #[.int .i64 0, .int .u32 0, .int .u32 0, .int .u32 0, .int .u64 0, .int .i32 0]), 6, 40) := by kernel_rfl
theorem infoL : (Tryz.prog.info? 59).map (fun i => (i.zero, i.size, i.bytes)) = some (some (.slice none 0 0), 1, 24) := by kernel_rfl
theorem RowIs.drewM {w : World} {g : Nat} {t : TypeId} {n : Nat} {f : Nat → Value} (h : RowIs w g t n f) (k : Nat) : RowIs (w.drewN k) g t n f := h
/-- A row of another type is no list of the hold's. -/
theorem Grew.row {e size n : Nat} {v v' : Value} {w w' : World} (h : Grew e size n v v' w w') {xs : List Value} (ho : w.ownsRow 0 e size v n xs) {g t k : Nat} {f : Nat → Value} (hr : RowIs w g t k f) (he : e ≠ t) : RowIs w' g t k f :=
  hr.but h.but (fun e1 => row_apart ho hr he e1 rfl)
theorem own_below {w w' : World} {e size n : Nat} {v : Value} {xs : List Value} (h : w.ownsRow 0 e size v n xs) (hb : Below w.heap.size w w') : w'.ownsRow 0 e size v n xs := own_frame h fun g hg => hb.block g (h.lt g hg).2
theorem own_set {w : World} {e size n : Nat} {v : Value} {xs : List Value} (h : w.ownsRow 0 e size v n xs) {g t k : Nat} {f : Nat → Value} (hr : RowIs w g t k f) (he : e ≠ t) (j : Nat) (u : Value) : (w.setCell ⟨g, j, none⟩ u).ownsRow 0 e size v n xs :=
  own_frame h fun _ hg' => heap_setCell_other _ _ _ _ (fun e1 => row_apart h hr he hg' e1)
/-- What an owner of a beginning of one of the three lists, or of none of them, owned: it owns it still. -/
structure Kept (w w' : World) (vb vo vl : Value) (nb no nl : Nat) : Prop where
  but : But (ownX vb vo vl) w w'
  own : ∀ e size u n xs, w.ownsRow 0 e size u n xs → (u.ownBlock ≠ none → u.ownBlock = vb.ownBlock → e = 5 ∧ size = 1 ∧ n ≤ nb) → (u.ownBlock ≠ none → u.ownBlock = vo.ownBlock → e = 43 ∧ size = 6 ∧ n ≤ no) → (u.ownBlock ≠ none → u.ownBlock = vl.ownBlock → e = 59 ∧ size = 1 ∧ n ≤ nl) → w'.ownsRow 0 e size u n xs
theorem Kept.below {w w' : World} {vb vo vl : Value} {nb no nl : Nat} (h : Below w.heap.size w w') : Kept w w' vb vo vl nb no nl :=
  ⟨But.below h, fun _ _ _ _ _ ho _ _ _ => own_below ho h⟩
theorem Kept.trans {a b c : World} {vb vo vl : Value} {nb no nl : Nat} (h : Kept a b vb vo vl nb no nl) (k : Kept b c vb vo vl nb no nl) : Kept a c vb vo vl nb no nl :=
  ⟨h.but.trans k.but, fun e size u n xs ho h1 h2 h3 => k.own e size u n xs (h.own e size u n xs ho h1 h2 h3) h1 h2 h3⟩
theorem Kept.set {a b : World} {vb vo vl : Value} {nb no nl : Nat} (h : Kept a b vb vo vl nb no nl) {p : Addr} (hp : a.heap.size ≤ p.block) (v : Value) : Kept a (b.setCell p v) vb vo vl nb no nl :=
  ⟨h.but.setCell (Or.inr hp) v, fun e size u n xs ho h1 h2 h3 => own_frame (h.own e size u n xs ho h1 h2 h3) fun g hg => heap_setCell_other _ _ _ _ (fun e1 => by have := (ho.lt g hg).2; omega)⟩
theorem own_none {w w' : World} {e size n : Nat} {u : Value} {xs : List Value} (h : w.ownsRow 0 e size u n xs) (hu : u.ownBlock = none) : w'.ownsRow 0 e size u n xs := own_frame h fun g hg => by rw [hu] at hg; cases hg
theorem Kept.grewB {w w' : World} {vb vo vl v' : Value} {nb no nl : Nat} (h : Grew 5 1 nb vb v' w w') : Kept w w' vb vo vl nb no nl :=
  ⟨h.but.mono fun _ e => Or.inl e, fun e size u n xs ho h1 _ _ => by
    by_cases hu : u.ownBlock = none
    · exact own_none ho hu
    · exact h.kept ho (h1 hu)⟩
theorem Kept.grewO {w w' : World} {vb vo vl v' : Value} {nb no nl : Nat} (h : Grew 43 6 no vo v' w w') : Kept w w' vb vo vl nb no nl :=
  ⟨h.but.mono fun _ e => Or.inr (Or.inl e), fun e size u n xs ho _ h1 _ => by
    by_cases hu : u.ownBlock = none
    · exact own_none ho hu
    · exact h.kept ho (h1 hu)⟩
theorem Kept.grewL {w w' : World} {vb vo vl v' : Value} {nb no nl : Nat} (h : Grew 59 1 nl vl v' w w') : Kept w w' vb vo vl nb no nl :=
  ⟨h.but.mono fun _ e => Or.inr (Or.inr e), fun e size u n xs ho _ _ h1 => by
    by_cases hu : u.ownBlock = none
    · exact own_none ho hu
    · exact h.kept ho (h1 hu)⟩
/-- The hold's own three lists are kept. -/
theorem Kept.raw {w w' : World} {hb : Nat} {mk : Int} {vb vo vl : Value} {nb no nl : Nat} {xb xo xl : List Value} (h : HoldRaw w hb mk vb vo vl nb no nl xb xo xl) (k : Kept w w' vb vo vl nb no nl) : HoldRaw w' hb mk vb vo vl nb no nl xb xo xl :=
  ⟨h.row.but k.but (fun e => by
      rcases e with e | e | e
      · exact row_apart h.ob h.row (by decide) e rfl
      · exact row_apart h.oo h.row (by decide) e rfl
      · exact row_apart h.ol h.row (by decide) e rfl),
    k.own _ _ _ _ _ h.ob (fun _ _ => ⟨rfl, rfl, Nat.le_refl _⟩) (fun hn e => absurd e.symm (fun e' => by
      cases hb' : vb.ownBlock with
      | none => exact hn hb'
      | some g => exact own_apart h.ob h.oo (by decide) hb' (by rw [e', hb']))) (fun hn e => absurd e.symm (fun e' => by
      cases hb' : vb.ownBlock with
      | none => exact hn hb'
      | some g => exact own_apart h.ob h.ol (by decide) hb' (by rw [e', hb']))),
    k.own _ _ _ _ _ h.oo (fun hn e => absurd e.symm (fun e' => by
      cases hb' : vo.ownBlock with
      | none => exact hn hb'
      | some g => exact own_apart h.oo h.ob (by decide) hb' (by rw [e', hb']))) (fun _ _ => ⟨rfl, rfl, Nat.le_refl _⟩) (fun hn e => absurd e.symm (fun e' => by
      cases hb' : vo.ownBlock with
      | none => exact hn hb'
      | some g => exact own_apart h.oo h.ol (by decide) hb' (by rw [e', hb']))),
    k.own _ _ _ _ _ h.ol (fun hn e => absurd e.symm (fun e' => by
      cases hb' : vl.ownBlock with
      | none => exact hn hb'
      | some g => exact own_apart h.ol h.ob (by decide) hb' (by rw [e', hb']))) (fun hn e => absurd e.symm (fun e' => by
      cases hb' : vl.ownBlock with
      | none => exact hn hb'
      | some g => exact own_apart h.ol h.oo (by decide) hb' (by rw [e', hb']))) (fun _ _ => ⟨rfl, rfl, Nat.le_refl _⟩)⟩
end Go.Proofs.YtcjohccaigflgaaGreatDoor

import Derived.Test.YtcjohccaigflgaaGreatDoorKept
namespace Go.Proofs.YtcjohccaigflgaaGreatDoor
open Go.RowKit
/-- What an append onto a list of one type leaves of a list of another. -/
theorem Grew.apart {e size n : Nat} {v v' : Value} {w w' : World} (h : Grew e size n v v' w w') {xs : List Value} (hv : w.ownsRow 0 e size v n xs) {e' size' n' : Nat} {u : Value} {ys : List Value} (hu : w.ownsRow 0 e' size' u n' ys) (he : e' ≠ e) : w'.ownsRow 0 e' size' u n' ys := by
  cases hb : u.ownBlock with
  | none => exact own_none hu hb
  | some g => exact h.kept hu fun e1 => absurd (e1.symm.trans hb) (own_apart hu hv he hb)
/-- A longer hold, half made: its lists so far are V1, V2, V3; the list that it will hold lies behind it. -/
structure Mid (w w' : World) (mk : Int) (vb vo vl : Value) (nb no nl : Nat) (V1 V2 V3 : Value) : Prop where
  kept : Kept w w' vb vo vl nb no nl
  row : RowIs w' w.heap.size 144 4 (hold4 V1 V2 V3 mk)
  lstB : w'.heap[w.heap.size + 1]? = some (.cells (lst mk) 5 (0, 0))
  lie1 : ∀ b, V1.ownBlock = some b → vb.ownBlock = some b ∨ w.heap.size + 1 < b
  lie2 : ∀ b, V2.ownBlock = some b → vo.ownBlock = some b ∨ w.heap.size + 1 < b
  lie3 : ∀ b, V3.ownBlock = some b → vl.ownBlock = some b ∨ w.heap.size + 1 < b
theorem Mid.lt {w w' : World} {mk : Int} {vb vo vl : Value} {nb no nl : Nat} {V1 V2 V3 : Value} (h : Mid w w' mk vb vo vl nb no nl V1 V2 V3) : w.heap.size + 1 < w'.heap.size := by
  have := h.lstB
  rcases Nat.lt_or_ge (w.heap.size + 1) w'.heap.size with h1 | h1
  · exact h1
  · rw [Array.getElem?_eq_none h1] at this; cases this
theorem Mid.below {w a b : World} {mk : Int} {vb vo vl : Value} {nb no nl : Nat} {V1 V2 V3 : Value} (h : Mid w a mk vb vo vl nb no nl V1 V2 V3) (hb : Below a.heap.size a b) : Mid w b mk vb vo vl nb no nl V1 V2 V3 :=
  ⟨h.kept.trans (Kept.below hb), h.row.below hb h.row.lt, (hb.block _ h.lt).trans h.lstB, h.lie1, h.lie2, h.lie3⟩
theorem Mid.lstKept {w a b : World} {mk : Int} {vb vo vl : Value} {nb no nl : Nat} {V1 V2 V3 v : Value} (h : Mid w a mk vb vo vl nb no nl V1 V2 V3) (hv : ∀ g, v.ownBlock = some g → g < w.heap.size) (g : But (fun b => v.ownBlock = some b) a b) (j : Nat) (u : Value) :
    (b.setCell ⟨w.heap.size, j, none⟩ u).heap[w.heap.size + 1]? = some (.cells (lst mk) 5 (0, 0)) :=
  (heap_setCell_other _ _ _ _ (by show w.heap.size + 1 ≠ w.heap.size; omega)).trans ((g.block _ h.lt fun e => by have := hv _ e; omega).trans h.lstB)
theorem Mid.grewB {w a b : World} {hb : Nat} {mk : Int} {vb vo vl : Value} {nb no nl : Nat} {xb xo xl : List Value} {V1 V2 V3 V : Value} (h : Mid w a mk vb vo vl nb no nl V1 V2 V3) (hr : HoldRaw w hb mk vb vo vl nb no nl xb xo xl) (g : Grew 5 1 nb vb V a b) :
    Mid w (b.setCell ⟨w.heap.size, 0, none⟩ V) mk vb vo vl nb no nl V V2 V3 :=
  ⟨(h.kept.trans (Kept.grewB g)).set (Nat.le_refl _) _, ((g.row (h.kept.raw hr).ob h.row (by decide)).set 0 V).congr (fun j hj => by match j with | 0 => rfl | 1 => rfl | 2 => rfl | 3 => rfl),
    h.lstKept (fun x hx => (hr.ob.lt x hx).2) g.but 0 V, (fun x hx => by
      rcases g.lies with e | ⟨y, e1, e2⟩
      · exact Or.inl (e ▸ hx)
      · rw [e1] at hx; cases hx; have := h.lt; exact Or.inr (by omega)), h.lie2, h.lie3⟩
theorem Mid.grewO {w a b : World} {hb : Nat} {mk : Int} {vb vo vl : Value} {nb no nl : Nat} {xb xo xl : List Value} {V1 V2 V3 V : Value} (h : Mid w a mk vb vo vl nb no nl V1 V2 V3) (hr : HoldRaw w hb mk vb vo vl nb no nl xb xo xl) (g : Grew 43 6 no vo V a b) :
    Mid w (b.setCell ⟨w.heap.size, 1, none⟩ V) mk vb vo vl nb no nl V1 V V3 :=
  ⟨(h.kept.trans (Kept.grewO g)).set (Nat.le_refl _) _, ((g.row (h.kept.raw hr).oo h.row (by decide)).set 1 V).congr (fun j hj => by match j with | 0 => rfl | 1 => rfl | 2 => rfl | 3 => rfl),
    h.lstKept (fun x hx => (hr.oo.lt x hx).2) g.but 1 V, h.lie1, (fun x hx => by
      rcases g.lies with e | ⟨y, e1, e2⟩
      · exact Or.inl (e ▸ hx)
      · rw [e1] at hx; cases hx; have := h.lt; exact Or.inr (by omega)), h.lie3⟩
theorem Mid.grewL {w a b : World} {hb : Nat} {mk : Int} {vb vo vl : Value} {nb no nl : Nat} {xb xo xl : List Value} {V1 V2 V3 V : Value} (h : Mid w a mk vb vo vl nb no nl V1 V2 V3) (hr : HoldRaw w hb mk vb vo vl nb no nl xb xo xl) (g : Grew 59 1 nl vl V a b) :
    Mid w (b.setCell ⟨w.heap.size, 2, none⟩ V) mk vb vo vl nb no nl V1 V2 V :=
  ⟨(h.kept.trans (Kept.grewL g)).set (Nat.le_refl _) _, ((g.row (h.kept.raw hr).ol h.row (by decide)).set 2 V).congr (fun j hj => by match j with | 0 => rfl | 1 => rfl | 2 => rfl | 3 => rfl),
    h.lstKept (fun x hx => (hr.ol.lt x hx).2) g.but 2 V, h.lie1, h.lie2, (fun x hx => by
      rcases g.lies with e | ⟨y, e1, e2⟩
      · exact Or.inl (e ▸ hx)
      · rw [e1] at hx; cases hx; have := h.lt; exact Or.inr (by omega))⟩
theorem signs_succ (mk : Int) (n : Nat) : signs mk (n + 1) = signs mk n ++ [.int .u8 (sg mk n)] := by simp [signs, List.range_succ]
theorem opms_succ (mk : Int) (n : Nat) : opms mk (n + 1) = opms mk n ++ [.int .i64 9, .int .u32 0, .int .u32 0, .int .u32 0, .int .u64 mk, .int .i32 0] := by
  unfold opms
  rw [Nat.add_mul, Nat.one_mul, List.range_add, List.map_append]
  congr 1
  simp [List.range_succ, opc]
end Go.Proofs.YtcjohccaigflgaaGreatDoor

import Derived.Test.YtcjohccaigflgaaGreatDoorLooks
namespace Go.Proofs.YtcjohccaigflgaaGreatDoor
open Go.RowKit
theorem mix_set {A X : List Value} {n k : Nat} (hA : A.length = n) (hX : X.length = n) (hk : k < n) (u : Value) (hu : A[k]? = some u) : (A.take k ++ X.drop k).set k u = A.take (k + 1) ++ X.drop (k + 1) := by
  have h1 : k < A.length := by omega
  have h2 : k < X.length := by omega
  have hu' : u = A[k] := by rw [List.getElem?_eq_getElem h1] at hu; exact (Option.some.inj hu).symm
  rw [List.set_append_right _ _ (by simp; omega), List.take_succ_eq_append_getElem h1, List.append_assoc, hu']
  congr 1
  rw [List.length_take, Nat.min_eq_left (Nat.le_of_lt h1), Nat.sub_self, List.drop_eq_getElem_cons h2]
  rfl
/-- A hold as it was made: its lists, with whatever they hold. -/
structure HoldRaw (w : World) (hb : Nat) (mk : Int) (vb vo vl : Value) (nb no nl : Nat) (xb xo xl : List Value) : Prop where
  row : RowIs w hb 144 4 (hold4 vb vo vl mk)
  ob : w.ownsRow 0 5 1 vb nb xb
  oo : w.ownsRow 0 43 6 vo no xo
  ol : w.ownsRow 0 59 1 vl nl xl
/-- No block of another type is the hold's own lists. -/
theorem own_type {w : World} {e size n : Nat} {v : Value} {xs : List Value} (h : w.ownsRow 0 e size v n xs) {g : Nat} (hg : v.ownBlock = some g) : ∃ cur, w.heap[g]? = some (.cells cur e (0, 0)) := by
  rcases h.2 with ⟨rfl, _⟩ | ⟨g', cap, cur, rfl, h3, h4, _⟩
  · cases hg
  · cases hg; exact ⟨cur, h4⟩
theorem own_apart {w : World} {e size n e' size' n' : Nat} {v v' : Value} {xs xs' : List Value} (h : w.ownsRow 0 e size v n xs) (h' : w.ownsRow 0 e' size' v' n' xs') (he : e ≠ e') {g : Nat} (hg : v.ownBlock = some g) : v'.ownBlock ≠ some g := fun hg' => by
  obtain ⟨c, hc⟩ := own_type h hg
  obtain ⟨c', hc'⟩ := own_type h' hg'
  rw [hc] at hc'; cases hc'; exact he rfl
theorem row_apart {w : World} {e size n : Nat} {v : Value} {xs : List Value} (h : w.ownsRow 0 e size v n xs) {hb t k : Nat} {f : Nat → Value} (hr : RowIs w hb t k f) (he : e ≠ t) {g : Nat} (hg : v.ownBlock = some g) : g ≠ hb := fun e1 => by
  subst e1
  obtain ⟨c, hc⟩ := own_type h hg
  unfold RowIs at hr; rw [hc] at hr; cases hr; exact he rfl
/-- wr is w but for the blocks of X, and new ones. -/
structure But (X : Nat → Prop) (w wr : World) : Prop where
  size : w.heap.size ≤ wr.heap.size
  os : wr.os = w.os
  tape : wr.tape = w.tape
  output : wr.output = w.output
  block : ∀ b, b < w.heap.size → ¬ X b → wr.heap[b]? = w.heap[b]?
theorem But.refl (X : Nat → Prop) (w : World) : But X w w := ⟨Nat.le_refl _, rfl, rfl, rfl, fun _ _ _ => rfl⟩
theorem But.trans {X : Nat → Prop} {a b c : World} (h : But X a b) (k : But X b c) : But X a c := ⟨Nat.le_trans h.size k.size, k.os.trans h.os, k.tape.trans h.tape, k.output.trans h.output, fun i hi hx => (k.block i (Nat.lt_of_lt_of_le hi h.size) hx).trans (h.block i hi hx)⟩
theorem But.mono {X Y : Nat → Prop} {a b : World} (h : But X a b) (hxy : ∀ b, X b → Y b) : But Y a b := ⟨h.size, h.os, h.tape, h.output, fun i hi hx => h.block i hi fun e => hx (hxy _ e)⟩
theorem But.below {X : Nat → Prop} {a b : World} (h : Below a.heap.size a b) : But X a b := ⟨h.size, h.os, h.tape, h.output, fun i hi _ => h.block i hi⟩
theorem But.drew {X : Nat → Prop} {a b : World} (h : But X a b) : But X a b.drew := ⟨h.size, h.os, h.tape, h.output, h.block⟩
theorem But.setCell {X : Nat → Prop} {a b : World} (h : But X a b) {p : Addr} (hp : X p.block ∨ a.heap.size ≤ p.block) (v : Value) : But X a (b.setCell p v) :=
  ⟨by simpa [World.setCell] using h.size, h.os, h.tape, h.output, fun i hi hx => (heap_setCell_other _ _ _ _ (fun e => by rcases hp with hp | hp; exact hx (e ▸ hp); omega)).trans (h.block i hi hx)⟩
theorem But.alloc {X : Nat → Prop} {a b : World} (h : But X a b) (o : Obj) : But X a (b.alloc o) := h.trans (But.below ((Below.refl _ _).alloc (Nat.le_refl _) o))
theorem RowIs.but {w wr : World} {g : Nat} {t : TypeId} {n : Nat} {f : Nat → Value} {X : Nat → Prop} (h : RowIs w g t n f) (hb : But X w wr) (hg : ¬ X g) : RowIs wr g t n f := by
  unfold RowIs; rw [hb.block g h.lt hg]; exact h
theorem HoldRaw.setB {w : World} {hb : Nat} {mk : Int} {g cb : Nat} {vo vl : Value} {nb no nl : Nat} {xb xo xl : List Value} (h : HoldRaw w hb mk (.slice (some ⟨g, 0, none⟩) nb cb) vo vl nb no nl xb xo xl) (k : Nat) (u : Value) :
    HoldRaw (w.setCell ⟨g, k, none⟩ u) hb mk (.slice (some ⟨g, 0, none⟩) nb cb) vo vl nb no nl (xb.set k u) xo xl :=
  ⟨h.row.setOther (a := ⟨g, k, none⟩) (fun e => row_apart h.ob h.row (by decide) rfl e) _, (h.ob.stored k u).1, own_frame h.oo fun g' hg' => heap_setCell_other _ _ _ _ (fun e => own_apart h.oo h.ob (by decide) hg' (by rw [e]; rfl)), own_frame h.ol fun g' hg' => heap_setCell_other _ _ _ _ (fun e => own_apart h.ol h.ob (by decide) hg' (by rw [e]; rfl))⟩
theorem HoldRaw.setO {w : World} {hb : Nat} {mk : Int} {g co : Nat} {vb vl : Value} {nb no nl : Nat} {xb xo xl : List Value} (h : HoldRaw w hb mk vb (.slice (some ⟨g, 0, none⟩) no co) vl nb no nl xb xo xl) (k : Nat) (u : Value) :
    HoldRaw (w.setCell ⟨g, k, none⟩ u) hb mk vb (.slice (some ⟨g, 0, none⟩) no co) vl nb no nl xb (xo.set k u) xl :=
  ⟨h.row.setOther (a := ⟨g, k, none⟩) (fun e => row_apart h.oo h.row (by decide) rfl e) _, own_frame h.ob fun g' hg' => heap_setCell_other _ _ _ _ (fun e => own_apart h.ob h.oo (by decide) hg' (by rw [e]; rfl)), (h.oo.stored k u).1, own_frame h.ol fun g' hg' => heap_setCell_other _ _ _ _ (fun e => own_apart h.ol h.oo (by decide) hg' (by rw [e]; rfl))⟩
theorem HoldRaw.setL {w : World} {hb : Nat} {mk : Int} {g cl : Nat} {vb vo : Value} {nb no nl : Nat} {xb xo xl : List Value} (h : HoldRaw w hb mk vb vo (.slice (some ⟨g, 0, none⟩) nl cl) nb no nl xb xo xl) (k : Nat) (u : Value) :
    HoldRaw (w.setCell ⟨g, k, none⟩ u) hb mk vb vo (.slice (some ⟨g, 0, none⟩) nl cl) nb no nl xb xo (xl.set k u) :=
  ⟨h.row.setOther (a := ⟨g, k, none⟩) (fun e => row_apart h.ol h.row (by decide) rfl e) _, own_frame h.ob fun g' hg' => heap_setCell_other _ _ _ _ (fun e => own_apart h.ob h.ol (by decide) hg' (by rw [e]; rfl)), own_frame h.oo fun g' hg' => heap_setCell_other _ _ _ _ (fun e => own_apart h.oo h.ol (by decide) hg' (by rw [e]; rfl)), (h.ol.stored k u).1⟩
theorem HoldRaw.frame {w w' : World} {hb : Nat} {mk : Int} {vb vo vl : Value} {nb no nl : Nat} {xb xo xl : List Value} (h : HoldRaw w hb mk vb vo vl nb no nl xb xo xl) (hf : ∀ b, b < w.heap.size → w'.heap[b]? = w.heap[b]?) : HoldRaw w' hb mk vb vo vl nb no nl xb xo xl :=
  ⟨by unfold RowIs; rw [hf hb h.row.lt]; exact h.row, own_frame h.ob fun g hg => hf g (h.ob.lt g hg).2, own_frame h.oo fun g hg => hf g (h.oo.lt g hg).2, own_frame h.ol fun g hg => hf g (h.ol.lt g hg).2⟩
theorem HoldRaw.six {w : World} {hb : Nat} {mk : Int} {g co : Nat} {vb vl : Value} {nb no nl : Nat} {xb xo xl : List Value} {k : Nat} (hk : k < no) (hl : xo.length = no * 6)
    (h : HoldRaw w hb mk vb (.slice (some ⟨g, 0, none⟩) no co) vl nb no nl xb ((opms mk no).take (k * 6) ++ xo.drop (k * 6)) xl) :
    HoldRaw ((((((w.setCell ⟨g, k * 6, none⟩ (.int .i64 9)).setCell ⟨g, k * 6 + 1, none⟩ (.int .u32 0)).setCell ⟨g, k * 6 + 2, none⟩ (.int .u32 0)).setCell ⟨g, k * 6 + 3, none⟩ (.int .u32 0)).setCell ⟨g, k * 6 + 4, none⟩ (.int .u64 mk)).setCell ⟨g, k * 6 + 5, none⟩ (.int .i32 0)) hb mk vb (.slice (some ⟨g, 0, none⟩) no co) vl nb no nl xb ((opms mk no).take ((k + 1) * 6) ++ xo.drop ((k + 1) * 6)) xl := by
  have hA : (opms mk no).length = no * 6 := by simp [opms]
  have s := fun j (hj : j < 6) => mix_set hA hl (show k * 6 + j < no * 6 by omega) (opc mk j) ((opms_get (by omega)).trans (by rw [show (k * 6 + j) % 6 = j by omega]))
  have h6 := (((((h.setO (k * 6) (.int .i64 9)).setO (k * 6 + 1) (.int .u32 0)).setO (k * 6 + 2) (.int .u32 0)).setO (k * 6 + 3) (.int .u32 0)).setO (k * 6 + 4) (.int .u64 mk)).setO (k * 6 + 5) (.int .i32 0)
  have e : (((((((opms mk no).take (k * 6) ++ xo.drop (k * 6)).set (k * 6) (.int .i64 9)).set (k * 6 + 1) (.int .u32 0)).set (k * 6 + 2) (.int .u32 0)).set (k * 6 + 3) (.int .u32 0)).set (k * 6 + 4) (.int .u64 mk)).set (k * 6 + 5) (.int .i32 0) = (opms mk no).take ((k + 1) * 6) ++ xo.drop ((k + 1) * 6) := by
    have s0 := s 0 (by omega)
    have s1 := s 1 (by omega)
    have s2 := s 2 (by omega)
    have s3 := s 3 (by omega)
    have s4 := s 4 (by omega)
    have s5 := s 5 (by omega)
    simp only [opc, Nat.add_zero] at s0 s1 s2 s3 s4 s5
    rw [s0, s1, s2, s3, s4, s5, show k * 6 + 5 + 1 = (k + 1) * 6 by omega]
  rw [e] at h6
  exact h6
theorem HoldRaw.drew {w : World} {hb : Nat} {mk : Int} {vb vo vl : Value} {nb no nl : Nat} {xb xo xl : List Value} (h : HoldRaw w hb mk vb vo vl nb no nl xb xo xl) : HoldRaw w.drew hb mk vb vo vl nb no nl xb xo xl := ⟨h.row, h.ob, h.oo, h.ol⟩
theorem ListOk.frame {w w' : World} {F F' : Nat → Prop} {mk : Int} {v : Value} (h : ListOk w F mk v) (hF : ∀ b, F b → F' b) (hf : ∀ b, F b → w'.heap[b]? = w.heap[b]?) : ListOk w' F' mk v := by
  obtain ⟨g, rfl, hg, hh⟩ := h
  exact ⟨g, rfl, hF g hg, (hf g hg).trans hh⟩
/-- A list more, behind those that are there. -/
theorem lists_rel {w wr : World} {g m : Nat} {mk : Int} {ls : List Value} (hlo : ∀ v ∈ ls, ListOk wr (fun b => w.heap.size ≤ b ∧ b < wr.heap.size) mk v) (hlg : ∀ cur, wr.heap[g]? = some (.cells cur 5 (0, 0)) → False) (hws : w.heap.size ≤ wr.heap.size) (u : Value) :
    ∀ v ∈ ls ++ [Value.slice (some ⟨wr.heap.size, 0, none⟩) 3 3], ListOk ((wr.setCell ⟨g, m, none⟩ u).alloc (.cells (lst mk) 5)).drew (fun b => w.heap.size ≤ b ∧ b < ((wr.setCell ⟨g, m, none⟩ u).alloc (.cells (lst mk) 5)).drew.heap.size) mk v := by
  have hs0 : (wr.setCell ⟨g, m, none⟩ u).heap.size = wr.heap.size := by simp [World.setCell]
  have hsz : ((wr.setCell ⟨g, m, none⟩ u).alloc (.cells (lst mk) 5)).drew.heap.size = wr.heap.size + 1 := by
    show ((wr.setCell ⟨g, m, none⟩ u).alloc (.cells (lst mk) 5)).heap.size = _
    simp [World.setCell]
  intro v hv
  rcases List.mem_append.1 hv with hv | hv
  · obtain ⟨g', rfl, hg', hh⟩ := hlo v hv
    have hne : g' ≠ g := fun e => by subst e; exact hlg _ hh
    refine ⟨g', rfl, ⟨hg'.1, by rw [hsz]; omega⟩, ?_⟩
    exact (Below.heap_alloc _ _ _ (by rw [hs0]; exact hg'.2)).trans ((heap_setCell_other _ _ _ _ hne).trans hh)
  · simp at hv; subst hv
    refine ⟨_, rfl, ⟨hws, by rw [hsz]; omega⟩, ?_⟩
    have := heap_alloc_new (wr.setCell ⟨g, m, none⟩ u) (.cells (lst mk) 5)
    rw [hs0] at this; exact this
end Go.Proofs.YtcjohccaigflgaaGreatDoor

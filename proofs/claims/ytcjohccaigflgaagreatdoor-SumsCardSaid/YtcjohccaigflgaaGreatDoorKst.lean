import Derived.Test.YtcjohccaigflgaaGreatDoorFam
namespace Go.Proofs.YtcjohccaigflgaaGreatDoor
open Go.RowKit
/-- The blocks of the family of the hold that is kept. -/
def Gof (w wr : World) (hb : Nat) (vb vo vl vH : Value) (b : Nat) : Prop := b = hb ∨ ownX vb vo vl b ∨ (w.heap.size ≤ b ∧ b < wr.heap.size ∧ vH.ownBlock ≠ some b)
/-- What keep writes into. -/
def Xof (wd hb : Nat) (vb vo vl vH : Value) (b : Nat) : Prop := b = wd ∨ b = hb ∨ ownX vb vo vl b ∨ vH.ownBlock = some b
structure Pre (w : World) (wd : Nat) (R : Nat → Int) (vP vH : Value) (F : Nat → Prop) (hs : List Nat) (hb : Nat) (vb vo vl : Value) : Prop where
  ok : WOk w wd R vP vH F hs
  far : ∀ b, (b = hb ∨ ownX vb vo vl b) → b < w.heap.size ∧ ¬ F b ∧ b ≠ wd ∧ vH.ownBlock ≠ some b
structure Kst (w wr : World) (wd : Nat) (R : Nat → Int) (vP vH : Value) (F : Nat → Prop) (hs : List Nat) (hb : Nat) (vb vo vl : Value) (mk : Int) (j n1 n2 n3 : Nat) (vH' : Value) (hs' : List Nat) (g : Nat) (V1 V2 V3 : Value) (ls : List Value) : Prop where
  row : RowIs wr wd 88 74 (wcell R vP vH')
  own : wr.ownsRow 0 142 1 vH' (hs.length + j) (ptrs hs')
  len : hs'.length = hs.length + j
  lieH : ∀ b, vH'.ownBlock = some b → vH.ownBlock = some b ∨ w.heap.size ≤ b
  old : ∀ x ∈ hs', (∃ mk nb no nl, HoldOk wr F x mk nb no nl) ∨ Fam wr (Gof w wr hb vb vo vl vH') x mk V1 V2 V3 n1 n2 n3
  raw : HoldRaw wr g mk V1 V2 V3 n1 n2 n3 (signs mk n1) (opms mk n2) ls
  lists : ∀ v ∈ ls, ListOk wr (fun b => Gof w wr hb vb vo vl vH' b ∧ ¬ ownX V1 V2 V3 b) mk v
  inG : Gof w wr hb vb vo vl vH' g
  ownG : ∀ b, ownX V1 V2 V3 b → Gof w wr hb vb vo vl vH' b
  but : But (Xof wd hb vb vo vl vH) w wr
section
variable {w wr : World} {wd : Nat} {R : Nat → Int} {vP vH : Value} {F : Nat → Prop} {hs : List Nat} {hb : Nat} {vb vo vl : Value} {mk : Int} {j n1 n2 n3 : Nat} {vH' : Value} {hs' : List Nat} {g : Nat} {V1 V2 V3 : Value} {ls : List Value}
theorem Gof.lt (p : Pre w wd R vP vH F hs hb vb vo vl) (hs : w.heap.size ≤ wr.heap.size) {b : Nat} (h : Gof w wr hb vb vo vl vH' b) : b < wr.heap.size := by
  rcases h with h | h | h
  · have := (p.far b (Or.inl h)).1; omega
  · have := (p.far b (Or.inr h)).1; omega
  · exact h.2.1
theorem Gof.notF (p : Pre w wd R vP vH F hs hb vb vo vl) {b : Nat} (h : Gof w wr hb vb vo vl vH' b) : ¬ F b := by
  rcases h with h | h | h
  · exact (p.far b (Or.inl h)).2.1
  · exact (p.far b (Or.inr h)).2.1
  · exact fun e => by have := p.ok.below b e; omega
theorem Gof.notWd (p : Pre w wd R vP vH F hs hb vb vo vl) {b : Nat} (h : Gof w wr hb vb vo vl vH' b) : b ≠ wd := by
  rcases h with h | h | h
  · exact (p.far b (Or.inl h)).2.2.1
  · exact (p.far b (Or.inr h)).2.2.1
  · exact fun e => by have := p.ok.row.lt; omega
theorem Kst.F_notH (k : Kst w wr wd R vP vH F hs hb vb vo vl mk j n1 n2 n3 vH' hs' g V1 V2 V3 ls) (p : Pre w wd R vP vH F hs hb vb vo vl) {b : Nat} (h : F b) : vH'.ownBlock ≠ some b := fun e => by
  rcases k.lieH b e with e1 | e1
  · exact (p.ok.apart.2 b e1).1 h
  · have := p.ok.below b h; omega
theorem Kst.G_notH (k : Kst w wr wd R vP vH F hs hb vb vo vl mk j n1 n2 n3 vH' hs' g V1 V2 V3 ls) (p : Pre w wd R vP vH F hs hb vb vo vl) {b : Nat} (h : Gof w wr hb vb vo vl vH' b) : vH'.ownBlock ≠ some b := fun e => by
  rcases h with h | h | h
  · rcases k.lieH b e with e1 | e1
    · exact (p.far b (Or.inl h)).2.2.2 e1
    · have := (p.far b (Or.inl h)).1; omega
  · rcases k.lieH b e with e1 | e1
    · exact (p.far b (Or.inr h)).2.2.2 e1
    · have := (p.far b (Or.inr h)).1; omega
  · exact h.2.2 e
/-- In the end all is well. -/
theorem Kst.ok (k : Kst w wr wd R vP vH F hs hb vb vo vl mk j n1 n2 n3 vH' hs' g V1 V2 V3 ls) (p : Pre w wd R vP vH F hs hb vb vo vl) (hp : 0 ≤ mk ∧ mk ≤ 9223372036854775807) :
    WOk wr wd R vP vH' (fun b => F b ∨ Gof w wr hb vb vo vl vH' b) hs' :=
  ⟨k.row, by rw [k.len]; exact k.own, fun x hx => by
      rcases k.old x hx with ⟨m, a, b, c, h⟩ | h
      · exact ⟨m, a, b, c, h.mono fun _ e => Or.inl e⟩
      · obtain ⟨a, b, c, h⟩ := h.ok hp
        exact ⟨mk, a, b, c, h.mono fun _ e => Or.inr e⟩,
    ⟨fun e => e.elim p.ok.apart.1 fun e => Gof.notWd p e rfl, fun y hy => ⟨fun e => e.elim (fun e => k.F_notH p e hy) fun e => k.G_notH p e hy, row_apart k.own k.row (by decide) hy⟩⟩,
    fun b e => e.elim (fun e => Nat.lt_of_lt_of_le (p.ok.below b e) k.but.size) fun e => Gof.lt p k.but.size e⟩
/-- One longer hold. -/
theorem Kst.longer (k : Kst w wr wd R vP vH F hs hb vb vo vl mk j n1 n2 n3 vH' hs' g V1 V2 V3 ls) (p : Pre w wd R vP vH F hs hb vb vo vl) {w1 : World} {U1 U2 U3 : Value}
    (hr : HoldRaw w1 wr.heap.size mk U1 U2 U3 (n1 + 1) (n2 + 1) (n3 + 1) (signs mk (n1 + 1)) (opms mk (n2 + 1)) (ls ++ [.slice (some ⟨wr.heap.size + 1, 0, none⟩) 3 3])) (m : Mid wr w1 mk V1 V2 V3 n1 n2 n3 U1 U2 U3) :
    Kst w w1 wd R vP vH F hs hb vb vo vl mk j (n1 + 1) (n2 + 1) (n3 + 1) vH' hs' wr.heap.size U1 U2 U3 (ls ++ [.slice (some ⟨wr.heap.size + 1, 0, none⟩) 3 3]) := by
  have hsz := m.lt
  have hws := k.but.size
  have hHlt : ∀ b, vH'.ownBlock = some b → b < wr.heap.size := fun b e => (k.own.lt b e).2
  have hG : ∀ b, Gof w wr hb vb vo vl vH' b → Gof w w1 hb vb vo vl vH' b := fun b e => by
    rcases e with e | e | e
    · exact Or.inl e
    · exact Or.inr (Or.inl e)
    · exact Or.inr (Or.inr ⟨e.1, by omega, e.2.2⟩)
  have hnew : ∀ b, wr.heap.size ≤ b → b < w1.heap.size → Gof w w1 hb vb vo vl vH' b := fun b h1 h2 => Or.inr (Or.inr ⟨by omega, h2, fun e => by have := hHlt b e; omega⟩)
  have hXF : ∀ b, F b → ¬ ownX V1 V2 V3 b := fun b e e1 => Gof.notF p (k.ownG b e1) e
  refine ⟨k.row.but m.kept.but fun e => Gof.notWd p (k.ownG _ e) rfl, own_frame k.own fun y hy => m.kept.but.block y (hHlt y hy) fun e => k.G_notH p (k.ownG _ e) hy, k.len, k.lieH, fun x hx => ?_, hr, fun v hv => ?_, hnew _ (Nat.le_refl _) (by omega), fun b e => ?_, ?_⟩
  · rcases k.old x hx with ⟨a, b, c, d, h⟩ | h
    · exact Or.inl ⟨a, b, c, d, h.frame fun y hy => m.kept.but.block y (Nat.lt_of_lt_of_le (p.ok.below y hy) hws) (hXF y hy)⟩
    · exact Or.inr (h.step k.raw m hG fun b e => Gof.lt p hws e)
  · rcases List.mem_append.1 hv with hv | hv
    · exact m.lists hG (fun b e => Gof.lt p hws e) (k.lists v hv)
    · rw [List.mem_singleton] at hv
      subst hv
      exact ⟨_, rfl, ⟨hnew _ (by omega) hsz, m.notX (Nat.le_refl _) fun e => by have := Gof.lt p hws (k.ownG _ e); omega⟩, m.lstB⟩
  · have hlt : b < w1.heap.size := by
      rcases e with e | e | e
      · exact (hr.ob.lt b e).2
      · exact (hr.oo.lt b e).2
      · exact (hr.ol.lt b e).2
    rcases Nat.lt_or_ge b wr.heap.size with hb | hb
    · refine hG b (k.ownG b ?_)
      rcases e with e | e | e
      · exact Or.inl ((m.lie1 b e).resolve_right (by omega))
      · exact Or.inr (Or.inl ((m.lie2 b e).resolve_right (by omega)))
      · exact Or.inr (Or.inr ((m.lie3 b e).resolve_right (by omega)))
    · exact hnew b hb hlt
  · refine ⟨by omega, m.kept.but.os.trans k.but.os, m.kept.but.tape.trans k.but.tape, m.kept.but.output.trans k.but.output, fun b hb hx => (m.kept.but.block b (by omega) fun e => ?_).trans (k.but.block b hb hx)⟩
    rcases k.ownG b e with e | e | e
    · exact hx (Or.inr (Or.inl e))
    · exact hx (Or.inr (Or.inr (Or.inl e)))
    · omega
/-- The newest hold is put behind the list of holds. -/
theorem Kst.push (k : Kst w wr wd R vP vH F hs hb vb vo vl mk j n1 n2 n3 vH' hs' g V1 V2 V3 ls) (p : Pre w wd R vP vH F hs hb vb vo vl) {wa w2 : World} {U : Value} (ha : Below wr.heap.size wr wa)
    (hg : Grew 142 1 (hs.length + j) vH' U wa w2) (ho : w2.ownsRow 0 142 1 U (hs.length + j + 1) (ptrs hs' ++ [.pointer (some ⟨g, 0, none⟩)])) :
    Kst w (w2.setCell ⟨wd, 73, none⟩ U) wd R vP vH F hs hb vb vo vl mk (j + 1) n1 n2 n3 U (hs' ++ [g]) g V1 V2 V3 ls := by
  have hws := k.but.size
  have has := ha.size
  have h2s := hg.but.size
  have hwd := k.row.lt
  have hss : (w2.setCell ⟨wd, 73, none⟩ U).heap.size = w2.heap.size := by simp [World.setCell]
  have rw2 : RowIs w2 wd 88 74 (wcell R vP vH') := hg.row (own_below k.own ha) (k.row.below ha hwd) (by decide)
  have hU : ∀ b, U.ownBlock = some b → vH'.ownBlock = some b ∨ wr.heap.size ≤ b := fun b e => by
    rcases hg.lies with e1 | ⟨y, e1, e2⟩
    · exact Or.inl (e1 ▸ e)
    · rw [e1] at e; cases e; exact Or.inr (by omega)
  have hG : ∀ b, Gof w wr hb vb vo vl vH' b → Gof w (w2.setCell ⟨wd, 73, none⟩ U) hb vb vo vl U b := fun b e => by
    rcases e with e | e | e
    · exact Or.inl e
    · exact Or.inr (Or.inl e)
    · refine Or.inr (Or.inr ⟨e.1, by omega, fun e1 => ?_⟩)
      rcases hU b e1 with e2 | e2
      · exact e.2.2 e2
      · omega
  have hf : ∀ b, b < wr.heap.size → vH'.ownBlock ≠ some b → b ≠ wd → (w2.setCell ⟨wd, 73, none⟩ U).heap[b]? = wr.heap[b]? := fun b h1 h2 h3 =>
    (heap_setCell_other _ _ _ _ h3).trans ((hg.but.block b (by omega) h2).trans (ha.block b h1))
  have hfG : ∀ b, Gof w wr hb vb vo vl vH' b → (w2.setCell ⟨wd, 73, none⟩ U).heap[b]? = wr.heap[b]? := fun b e => hf b (Gof.lt p hws e) (k.G_notH p e) (Gof.notWd p e)
  have hfF : ∀ b, F b → (w2.setCell ⟨wd, 73, none⟩ U).heap[b]? = wr.heap[b]? := fun b e => hf b (Nat.lt_of_lt_of_le (p.ok.below b e) hws) (k.F_notH p e) fun e1 => p.ok.apart.1 (e1 ▸ e)
  have hraw : HoldRaw (w2.setCell ⟨wd, 73, none⟩ U) g mk V1 V2 V3 n1 n2 n3 (signs mk n1) (opms mk n2) ls := ⟨(hfG g k.inG).trans k.raw.row, own_frame k.raw.ob fun y hy => hfG y (k.ownG y (Or.inl hy)), own_frame k.raw.oo fun y hy => hfG y (k.ownG y (Or.inr (Or.inl hy))), own_frame k.raw.ol fun y hy => hfG y (k.ownG y (Or.inr (Or.inr hy)))⟩
  have hlist : ∀ v ∈ ls, ListOk (w2.setCell ⟨wd, 73, none⟩ U) (fun b => Gof w (w2.setCell ⟨wd, 73, none⟩ U) hb vb vo vl U b ∧ ¬ ownX V1 V2 V3 b) mk v := fun v hv => (k.lists v hv).frame (fun b e => ⟨hG b e.1, e.2⟩) fun b e => hfG b e.1
  refine ⟨(rw2.set 73 U).congr fun i hi => ?_, own_set (by rw [← Nat.add_assoc]; simpa [ptrs] using ho) rw2 (by decide) 73 U, by rw [List.length_append, k.len]; rfl, fun b e => ?_, fun x hx => ?_, hraw, hlist, hG _ k.inG, fun b e => hG b (k.ownG b e), ?_⟩
  · by_cases e : i = 73
    · subst e; rfl
    · simp only [wcell, if_neg e]
      split
      · rfl
      · split
        · rfl
        · omega
  · rcases hU b e with e1 | e1
    · exact k.lieH b e1
    · exact Or.inr (by omega)
  · rcases List.mem_append.1 hx with hx | hx
    · rcases k.old x hx with ⟨a, b, c, d, h⟩ | h
      · exact Or.inl ⟨a, b, c, d, h.frame hfF⟩
      · exact Or.inr (h.frame hG hfG)
    · rw [List.mem_singleton] at hx
      subst hx
      exact Or.inr (Fam.of_raw hraw (hG _ k.inG) (fun b e => hG b (k.ownG b e)) hlist)
  · refine But.setCell ⟨by omega, (hg.but.os.trans ha.os).trans k.but.os, (hg.but.tape.trans ha.tape).trans k.but.tape, (hg.but.output.trans ha.output).trans k.but.output, fun b hb hx => ((hg.but.block b (by omega) fun e => ?_).trans (ha.block b (by omega))).trans (k.but.block b hb hx)⟩ (Or.inl (Or.inl rfl)) U
    rcases k.lieH b e with e1 | e1
    · exact hx (Or.inr (Or.inr (Or.inr e1)))
    · omega
end
end Go.Proofs.YtcjohccaigflgaaGreatDoor

import Derived.Test.YtgccjefbedpmpaaGreatDoorGRefRd
import Derived.Test.YtgccjefbedpmpaaGreatDoorGSame
namespace Go.Proofs.YtgccjefbedpmpaaGreatDoor
open Go.RowKit
theorem son_app (a b : List Int) : strOfNums (a ++ b) = strOfNums a ++ strOfNums b := by
  apply ByteArray.ext
  rw [ByteArray.data_append]
  simp [strOfNums]
theorem vb_vn (k : Nat) : ∀ n, n ≤ k → vb n = strOfNums (vn n) := by
  induction k with
  | zero => intro n h; rw [vb_lt (by omega), vn_lt (by omega)]
  | succ k ih =>
    intro n h
    by_cases hn : n < 128
    · rw [vb_lt hn, vn_lt hn]
    · rw [vb_ge hn, vn_ge hn, ih (n / 128) (by omega), ← son_app]; rfl
theorem vb_eq (n : Nat) : vb n = strOfNums (vn n) := vb_vn n n (Nat.le_refl _)
theorem dl_son {l : List Int} (h : Byt l) : dl (strOfNums l) = l := by
  unfold dl
  rw [strOfNums_data, List.map_map]
  refine (List.map_congr_left fun x hx => ?_).trans (List.map_id _)
  obtain ⟨h0, h1⟩ := h x hx
  have : (UInt8.ofNat x.toNat).toNat = x.toNat := by
    rw [UInt8.toNat_ofNat']; omega
  show ((UInt8.ofNat x.toNat).toNat : Int) = x
  rw [this, Int.toNat_of_nonneg h0]
theorem son_dl (s : ByteArray) : strOfNums (dl s) = s := by
  apply ByteArray.ext
  apply Array.ext'
  rw [strOfNums_data, dl, List.map_map]
  refine (List.map_congr_left fun x _ => ?_).trans (List.map_id _)
  show UInt8.ofNat ((x.toNat : Int).toNat) = x
  rw [Int.toNat_natCast, UInt8.ofNat_toNat]
theorem dl_byt (s : ByteArray) : Byt (dl s) := fun x hx => by
  unfold dl at hx
  obtain ⟨b, _, rfl⟩ := List.mem_map.1 hx
  have := b.toNat_lt
  exact ⟨by omega, by omega⟩
theorem dl_len (s : ByteArray) : (dl s).length = s.size := by
  unfold dl
  rw [List.length_map, Array.length_toList]; rfl
theorem byAt_dl (s : ByteArray) {a : Nat} (h : a < (dl s).length) : byAt s a = (dl s)[a] := by
  have h2 : a < s.data.toList.length := by unfold dl at h; rw [List.length_map] at h; exact h
  rw [byAt, if_pos (by rw [← dl_len]; exact h), mBy, List.getElem?_eq_getElem h2]
  have e : (dl s)[a]? = some ((s.data.toList[a].toNat : Int)) := by unfold dl; rw [List.getElem?_map, List.getElem?_eq_getElem h2]; rfl
  rw [List.getElem?_eq_getElem h] at e
  rw [Option.some.inj e]; rfl
theorem lies_of {s : ByteArray} {l r : List Int} (h : dl s = l ++ r) : Lies s 0 l := by
  have hl := dl_len s
  rw [h, List.length_append] at hl
  refine ⟨by omega, fun j hj => ?_⟩
  have hj2 : j < (dl s).length := by rw [h, List.length_append]; omega
  rw [Nat.zero_add, byAt_dl s hj2]
  simp only [h]
  rw [List.getElem_append_left hj]
/-- The check. -/
def chk (s : ByteArray) : List Int := [dig s 0, dig s 1, dig s 2]
theorem osB_byt : ∀ os : List Opn, (∀ o ∈ os, OpW o) → Byt (osB os) := by
  intro os
  induction os with
  | nil => intro _; exact Byt.nil
  | cons o os ih =>
    intro h
    have ho := h o (List.mem_cons_self ..)
    refine Byt.app (Byt.cons ho.kd ((vn_byt _ _ (Nat.le_refl _)).app ((vn_byt _ _ (Nat.le_refl _)).app ((vn_byt _ _ (Nat.le_refl _)).app ((vn_byt _ _ (Nat.le_refl _)).app ?_))))) (ih fun x hx => h x (List.mem_cons_of_mem _ hx))
    split
    · exact vn_byt _ _ (Nat.le_refl _)
    · exact Byt.nil
theorem frB_byt {f : Frm} (h : FrW f) (hd : Byt [f.d0, f.d1, f.d2]) : Byt (frB f) := by
  have hk := h.kd
  have hn := h.n.1
  refine Byt.cons (by omega) ((vn_byt _ _ (Nat.le_refl _)).app (Byt.app ?_ (Byt.app ?_ ?_)))
  · split
    · exact (vn_byt _ _ (Nat.le_refl _)).app (vn_byt _ _ (Nat.le_refl _))
    · exact Byt.nil
  · split
    · exact hd
    · exact Byt.nil
  · split
    · exact Byt.cons (by omega) (osB_byt _ h.ops)
    · exact Byt.nil
/-- A frame whose numbers are of their types: what a word of the language can hold. -/
structure FrT (f : Frm) : Prop where
  lo : 0 ≤ f.lo
  rf : ∀ o ∈ f.ops, 0 ≤ o.rf
  dg : Byt [f.d0, f.d1, f.d2]
/-- The bytes of a right frame. -/
def packL (f : Frm) : List Int := frB f ++ chk (strOfNums (frB f))
def Good (f : Frm) (l : List Int) : Prop := okFrm f = true ∧ FrT f ∧ l = packL f
theorem Good.w {f : Frm} {l : List Int} (h : Good f l) : FrW f := okFrm_w h.1 h.2.1.lo h.2.1.rf
theorem Good.byt {f : Frm} {l : List Int} (h : Good f l) : Byt (frB f) := frB_byt h.w h.2.1.dg
theorem Good.len {f : Frm} {l : List Int} (h : Good f l) : l.length = (frB f).length + 3 := by rw [h.2.2, packL, List.length_append]; rfl
/-- What is ahead of the check. -/
theorem Good.body {f : Frm} {l : List Int} (h : Good f l) : l.take (l.length - 3) = frB f ∧ l.drop (l.length - 3) = chk (strOfNums (frB f)) := by
  have e := h.len
  rw [show l.length - 3 = (frB f).length by omega, h.2.2, packL]
  exact ⟨List.take_left' rfl, List.drop_left' rfl⟩
theorem Good.parse {f : Frm} {l : List Int} (h : Good f l) : frP (l.take (l.length - 3)) = some (f, []) := by
  rw [h.body.1]; exact frP_complete h.w
theorem Good.one {f g : Frm} {l : List Int} (h : Good f l) (k : Good g l) : f = g := by
  have e := h.parse.symm.trans k.parse
  cases e; rfl
/-- What the program reads is good, if it is right and the check fits. -/
theorem good_of_parse {l : List Int} {f : Frm} (hb : Byt l) (h : frP (l.take (l.length - 3)) = some (f, [])) (hc : l.drop (l.length - 3) = chk (strOfNums (l.take (l.length - 3)))) (hok : okFrm f = true) : Good f l := by
  have hbt : Byt (l.take (l.length - 3)) := fun x hx => hb x (List.mem_of_mem_take hx)
  have hk : 1 ≤ f.kd ∧ f.kd ≤ 5 := by
    unfold okFrm nOk at hok
    simp only [Bool.and_eq_true] at hok
    have := hok.1
    split at this
    · omega
    · split at this
      · omega
      · split at this
        · omega
        · split at this
          · omega
          · cases this
  obtain ⟨hw, e⟩ := frP_sound hbt h hk
  have hd : Byt [f.d0, f.d1, f.d2] := by
    by_cases e1 : f.kd = 1
    · rw [e] at hbt
      unfold frB at hbt
      rw [if_pos e1] at hbt
      have := hbt.tail.right.right
      exact fun x hx => this x (List.mem_append_left _ hx)
    · obtain ⟨q1, q2, q3⟩ := hw.dg e1
      rw [q1, q2, q3]
      exact Byt.nil.cons (by omega) |>.cons (by omega) |>.cons (by omega)
  refine ⟨hok, ⟨hw.lo.1, fun o ho => (hw.ops o ho).rf.1, hd⟩, ?_⟩
  rw [packL, ← e, ← hc, List.take_append_drop]
end Go.Proofs.YtgccjefbedpmpaaGreatDoor

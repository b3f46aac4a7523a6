import Derived.Test.YtgccjefbedpmpaaGreatDoorGHold
import Derived.ArgAppend
import Derived.Deep.Upon
import Derived.Deep.AppendLies
import Derived.Deep.RegionHeld3
namespace Go.Proofs.YtgccjefbedpmpaaGreatDoor
open Go.RowKit
theorem setCells_row (g : Nat) (e : TypeId) : ∀ (vs : List Value) (o : Nat) (w : World) (cur : Array Value), w.heap[g]? = some (.cells cur e (0, 0)) → o + vs.length ≤ cur.size →
    ∃ cur', (w.setCells g o vs).heap[g]? = some (.cells cur' e (0, 0)) ∧ cur'.size = cur.size ∧ (∀ j, j < o → cur'[j]? = cur[j]?) ∧ ∀ j, j < vs.length → cur'[o + j]? = vs[j]?
  | [], _, w, cur, h, _ => ⟨cur, h, rfl, fun _ _ => rfl, fun j hj => absurd hj (by simp)⟩
  | v :: r, o, w, cur, h, hl => by
    have hl' : o + (r.length + 1) ≤ cur.size := hl
    obtain ⟨cur', h1, h2, h3, h4⟩ := setCells_row g e r (o + 1) (w.setCell ⟨g, o, none⟩ v) (cur.setIfInBounds o v) (heap_setCell_same _ _ _ _ _ _ h) (by simp; omega)
    refine ⟨cur', h1, by simpa using h2, fun j hj => ?_, fun j hj => ?_⟩
    · rw [h3 j (by omega), Array.getElem?_setIfInBounds, if_neg (by omega)]
    · match j with
      | 0 => rw [Nat.add_zero, h3 o (by omega), Array.getElem?_setIfInBounds, if_pos rfl, if_pos (by omega)]; rfl
      | j + 1 =>
        have := h4 j (by simpa using hj)
        rw [show o + (j + 1) = o + 1 + j by omega, this]; rfl
theorem setCells_size (g : Nat) : ∀ (vs : List Value) (o : Nat) (w : World), (w.setCells g o vs).heap.size = w.heap.size ∧ (w.setCells g o vs).tape = w.tape
  | [], _, _ => ⟨rfl, rfl⟩
  | v :: r, o, w => by
    obtain ⟨h1, h2⟩ := setCells_size g r (o + 1) (w.setCell ⟨g, o, none⟩ v)
    exact ⟨by rw [World.setCells, h1]; simp [World.setCell], by rw [World.setCells, h2]; rfl⟩
/-- What an append leaves of what was there. -/
structure Grew (e size n : Nat) (v v' : Value) (w w' : World) : Prop where
  but : But (fun b => v.ownBlock = some b) w w'
  pre : ∀ g cur, v.ownBlock = some g → w.heap[g]? = some (.cells cur e (0, 0)) → ∃ cur', w'.heap[g]? = some (.cells cur' e (0, 0)) ∧ cur'.size = cur.size ∧ cur'.toList.take (n * size) = cur.toList.take (n * size)
  lies : v'.ownBlock = v.ownBlock ∨ ∃ g, v'.ownBlock = some g ∧ w.heap.size ≤ g
theorem Grew.of_grown {e size n : Nat} {v v' : Value} {w w' : World} (hg : w.grownBy w' none) (hlt : ∀ g, v.ownBlock = some g → g < w.heap.size) (hl : v'.ownBlock = v.ownBlock ∨ ∃ g, v'.ownBlock = some g ∧ w.heap.size ≤ g) : Grew e size n v v' w w' :=
  ⟨⟨hg.size, hg.os, hg.tape, hg.output, fun b hb _ => hg.block b hb (by simp)⟩, fun g cur hv hc => ⟨cur, (hg.block g (hlt g hv) (by simp)).trans hc, rfl, rfl⟩, hl⟩
theorem take_eq_of {a b : List Value} {k : Nat} (h : ∀ j, j < k → a[j]? = b[j]?) : a.take k = b.take k := by
  apply List.ext_getElem?
  intro j
  by_cases hj : j < k
  · rw [List.getElem?_take_of_lt hj, List.getElem?_take_of_lt hj, h j hj]
  · rw [List.getElem?_eq_none (by simp; omega), List.getElem?_eq_none (by simp; omega)]
/-- THE APPEND, onto a list that is owned: what owned a beginning of it owns it still. -/
theorem run_append_keep {P : Program} (w : World) (t ty e : TypeId) (i : TypeInfo) (z : Value) (size bytes : Nat) (ht : P.underlying t = some (.slice e)) (hi : P.info? e = some i) (hz : i.zero = some z)
    (hsize : i.size = size) (hby : i.bytes = bytes) (hzs : z.cells.size = size) (hsz : 0 < size) (v : Value) (n : Nat) (xs : List Value) (hown : w.ownsRow 0 e size v n xs)
    (a : Addr) (m c : Nat) (news : List Value) (hl : news.length = m * size) (hnews : ∀ j u, news[j]? = some u → w.cell? (a.add j) = some u) (h1 : ∀ u ∈ news, u.oneCell' = true)
    (_hm : 0 < m) (h63 : n + m ≤ maxLen) (hbytes : (n + m) * bytes ≤ 140737488355328) :
    ∃ v' w', (Builtin.append_ #[t, t] ty #[v, .slice (some a) m c]).run P w = .ok v' w' ∧ w'.ownsRow 0 e size v' (n + m) (xs ++ news) ∧ Grew e size n v v' w w' := by
  have hlt := fun g hg => (hown.lt g hg).2
  rcases hown.2 with ⟨rfl, rfl⟩ | ⟨g, cap, cur, rfl, h3, h4, h5, h6, h7, h8⟩
  · obtain ⟨v', w', hr, ho, hg, hn, hb⟩ := run_append_own_at (P := P) w 0 t ty e i z size bytes ht hi hz hsize hby hzs hsz _ _ xs hown a m c news hl hnews h1 h63 hbytes (Nat.zero_le _)
    exact ⟨v', w', hr, ho, Grew.of_grown hg hlt (hb.elim Or.inl fun hb => Or.inr ⟨_, hb, Nat.le_refl _⟩)⟩
  · have hxl : xs.length = n * size := hown.1
    by_cases hroom : n + m ≤ cap
    · have hmul : n * size + m * size ≤ cap * size := by rw [← Nat.add_mul]; exact Nat.mul_le_mul_right _ hroom
      obtain ⟨cur', k1, k2, k3, k4⟩ := setCells_row g e news (n * size) w cur h4 (by omega)
      have hpre : cur'.toList.take (n * size) = cur.toList.take (n * size) := take_eq_of fun j hj => by simpa using k3 j hj
      have hrun := run_append_room_cells (P := P) w t ty e i ht hi g 0 n cap a m c news (by rw [hl, hsize]) hnews h1 hroom (fun j hj => by
        rw [hsize, Nat.zero_add, cell_of_row _ _ _ _ _ _ h4, Array.getElem?_eq_getElem (by omega)]; rfl) (fun j hj => frozen_of_row _ _ _ _ _ h4)
      rw [hsize, Nat.zero_add] at hrun
      refine ⟨_, _, hrun, ⟨by rw [List.length_append, hxl, hl, Nat.add_mul], .inr ⟨g, cap, cur', rfl, Nat.zero_le _, k1, hroom, h6, by rw [k2, h7], ?_⟩⟩, ⟨?_, ?_, Or.inl rfl⟩⟩
      · apply List.ext_getElem?
        intro j
        by_cases hj : j < n * size
        · rw [List.getElem?_append_left (by omega), ← h8, ← hpre, List.getElem?_take_of_lt hj, List.getElem?_take_of_lt (by rw [Nat.add_mul]; omega)]
        · by_cases hj2 : j < (n + m) * size
          · have hj3 : j - n * size < news.length := by rw [Nat.add_mul] at hj2; omega
            have := k4 (j - n * size) hj3
            rw [show n * size + (j - n * size) = j by omega] at this
            rw [List.getElem?_append_right (by omega), hxl, List.getElem?_take_of_lt hj2, Array.getElem?_toList, this]
          · rw [List.getElem?_eq_none (by simp; omega), List.getElem?_eq_none (by rw [List.length_append, hxl, hl, ← Nat.add_mul]; omega)]
      · obtain ⟨s1, s2⟩ := setCells_size g news (n * size) w
        refine ⟨by rw [s1]; exact Nat.le_refl _, World.os_setCells _ _ _ _, s2, World.output_setCells _ _ _ _, fun b hb hx => World.heap_setCells_other _ _ _ _ hb (fun e => hx (by rw [e]; rfl))⟩
      · intro g' cur0 hg' hc0
        cases hg'
        rw [h4] at hc0; cases hc0
        exact ⟨cur', k1, k2, hpre⟩
    · obtain ⟨v', w', hr, ho, hg⟩ := run_append_arg_grows (P := P) w t ty e i z size bytes ht hi hz hsize hby hzs hsz ⟨g, 0, none⟩ n cap xs hxl (fun j u hj => hown.cells rfl j u hj) a m c news hl hnews (by omega) h63 hbytes
      obtain ⟨g', cap', rfl, hg1, _⟩ := ho.form (by omega)
      refine ⟨_, w', hr, ⟨ho.1, ?_⟩, Grew.of_grown hg hlt (Or.inr ⟨g', rfl, hg1⟩)⟩
      rcases ho.2 with ⟨h, _⟩ | ⟨g2, c2, cur2, q1, q2, q3⟩
      · cases h
      · exact .inr ⟨g2, c2, cur2, q1, Nat.zero_le _, q3⟩
/-- What owned a beginning of the list owns it still. -/
theorem Grew.kept {e size n : Nat} {v v' : Value} {w w' : World} (h : Grew e size n v v' w w') {u : Value} {n' : Nat} {xs : List Value} {e' size' : Nat} (hu : w.ownsRow 0 e' size' u n' xs) (hn : u.ownBlock = v.ownBlock → e' = e ∧ size' = size ∧ n' ≤ n) : w'.ownsRow 0 e' size' u n' xs := by
  by_cases hb : u.ownBlock = v.ownBlock
  · obtain ⟨rfl, rfl, hle⟩ := hn hb
    refine ⟨hu.1, ?_⟩
    rcases hu.2 with h2 | ⟨g, cap, cur, rfl, h3, h4, h5, h6, h7, h8⟩
    · exact .inl h2
    · obtain ⟨cur', k1, k2, k3⟩ := h.pre g cur (by rw [← hb]; rfl) h4
      refine .inr ⟨g, cap, cur', rfl, h3, k1, h5, h6, by rw [k2, h7], ?_⟩
      have hm : n' * size' ≤ n * size' := Nat.mul_le_mul_right _ hle
      have e1 : ∀ l : List Value, (l.take (n * size')).take (n' * size') = l.take (n' * size') := fun l => by rw [List.take_take, Nat.min_eq_left hm]
      rw [← h8, ← e1 cur'.toList, k3, e1]
  · exact own_frame hu fun g hg => h.but.block g (hu.lt g hg).2 (fun e => hb (hg.trans e.symm))
theorem wp_append_keep {P : Program} {o : Oper} {a : Act} {w : World} {K : Act → World → Prop} {Q : Exit → Act → World → Prop} (s x : Operand) (t : TypeId) (ho : o.op = .call { callee := .builtin .append, args := #[s, x], argTypes := #[t, t] })
    (e : TypeId) (i : TypeInfo) (z : Value) (size bytes : Nat) (ht : P.underlying t = some (.slice e)) (hi : P.info? e = some i) (hz : i.zero = some z) (hsize : i.size = size) (hby : i.bytes = bytes) (hzs : z.cells.size = size) (hsz : 0 < size)
    (v : Value) (n : Nat) (xs : List Value) (hs : a.eval s = v) (hown : w.ownsRow 0 e size v n xs) (ad : Addr) (m c : Nat) (news : List Value) (hx : a.eval x = .slice (some ad) m c) (hl : news.length = m * size) (hnews : ∀ j u, news[j]? = some u → w.cell? (ad.add j) = some u) (h1 : ∀ u ∈ news, u.oneCell' = true)
    (hm : 0 < m) (h63 : n + m ≤ maxLen) (hbytes : (n + m) * bytes ≤ 140737488355328)
    (h : ∀ v' w', w'.ownsRow 0 e size v' (n + m) (xs ++ news) → Grew e size n v v' w w' → K (a.put o.dst v') w') : o.wp P a w K Q := by
  obtain ⟨v', w', hrun, r1, r2⟩ := run_append_keep (P := P) w t o.type e i z size bytes ht hi hz hsize hby hzs hsz v n xs hown ad m c news hl hnews h1 hm h63 hbytes
  unfold Oper.wp
  simp [execOp, ho, resolve, invoke, builtin, hs, hx, hrun, Result.andThen]
  exact h v' w' r1 r2
theorem wpList_append_keep {P : Program} (w : World) {ops : Array Oper} {rest : List Oper} {o : Oper} {a : Act} {Q : Exit → Act → World → Prop} (hgd : o.guard = none) (s x : Operand) (t : TypeId) (ho : o.op = .call { callee := .builtin .append, args := #[s, x], argTypes := #[t, t] })
    (e : TypeId) (i : TypeInfo) (z : Value) (size bytes : Nat) (ht : P.underlying t = some (.slice e)) (hi : P.info? e = some i) (hz : i.zero = some z) (hsize : i.size = size) (hby : i.bytes = bytes) (hzs : z.cells.size = size) (hsz : 0 < size)
    (v : Value) (n : Nat) (xs : List Value) (hs : a.eval s = v) (hown : w.ownsRow 0 e size v n xs) (ad : Addr) (m c : Nat) (news : List Value) (hx : a.eval x = .slice (some ad) m c) (hl : news.length = m * size) (hnews : ∀ j u, news[j]? = some u → w.cell? (ad.add j) = some u) (h1 : ∀ u ∈ news, u.oneCell' = true)
    (hm : 0 < m) (h63 : n + m ≤ maxLen) (hbytes : (n + m) * bytes ≤ 140737488355328)
    (h : ∀ v' w', w'.ownsRow 0 e size v' (n + m) (xs ++ news) → Grew e size n v v' w w' → wpList P ops Q rest (a.put o.dst v') w') : wpList P ops Q (o :: rest) a w :=
  wpList_plain hgd fun _ hK => wp_append_keep s x t ho e i z size bytes ht hi hz hsize hby hzs hsz v n xs hs hown ad m c news hx hl hnews h1 hm h63 hbytes fun v' w' h2 h3 => hK _ _ (h v' w' h2 h3)
theorem step_append_keep {P : Program} (w : World) {ops : Array Oper} {o : Oper} {a : Act} {K : Act → World → Prop} {Q : Exit → Act → World → Prop} {E : Prop} (hgd : o.guard = none) (s x : Operand) (t : TypeId) (ho : o.op = .call { callee := .builtin .append, args := #[s, x], argTypes := #[t, t] })
    (e : TypeId) (i : TypeInfo) (z : Value) (size bytes : Nat) (ht : P.underlying t = some (.slice e)) (hi : P.info? e = some i) (hz : i.zero = some z) (hsize : i.size = size) (hby : i.bytes = bytes) (hzs : z.cells.size = size) (hsz : 0 < size)
    (v : Value) (n : Nat) (xs : List Value) (hs : a.eval s = v) (hown : w.ownsRow 0 e size v n xs) (ad : Addr) (m c : Nat) (news : List Value) (hx : a.eval x = .slice (some ad) m c) (hl : news.length = m * size) (hnews : ∀ j u, news[j]? = some u → w.cell? (ad.add j) = some u) (h1 : ∀ u ∈ news, u.oneCell' = true)
    (hm : 0 < m) (h63 : n + m ≤ maxLen) (hbytes : (n + m) * bytes ≤ 140737488355328)
    (h : ∀ v' w', w'.ownsRow 0 e size v' (n + m) (xs ++ news) → Grew e size n v v' w w' → K (a.put o.dst v') w') : if Region.wanted o (yielded ops a.tmps) = true then Oper.wp P o a w K Q else E := by
  have hw : Region.wanted o (yielded ops a.tmps) = true := by simp [Region.wanted, hgd]
  rw [if_pos hw]
  exact wp_append_keep s x t ho e i z size bytes ht hi hz hsize hby hzs hsz v n xs hs hown ad m c news hx hl hnews h1 hm h63 hbytes h
end Go.Proofs.YtgccjefbedpmpaaGreatDoor
namespace Go.Proofs.YtgccjefbedpmpaaGreatDoor
open Go.RowKit
theorem infoB : (Tryz.prog.info? 5).map (fun i => (i.zero, i.size, i.bytes)) = some (some (.int .u8 0), 1, 1) := by kernel_rfl
theorem infoO : (Tryz.prog.info? 43).map (fun i => (i.zero, i.size, i.bytes)) = some (some (.agg #[.int .i64 0, .int .u32 0, .int .u32 0, .int .u32 0, .int .u64 0, .int .i32 0]), 6, 40) := by kernel_rfl
theorem infoL : (Tryz.prog.info? 59).map (fun i => (i.zero, i.size, i.bytes)) = some (some (.slice none 0 0), 1, 24) := by kernel_rfl
theorem RowIs.drewM {w : World} {g : Nat} {t : TypeId} {n : Nat} {f : Nat → Value} (h : RowIs w g t n f) (k : Nat) : RowIs (w.drewN k) g t n f := h
/-- A row of another type is no list of the hold's. -/
theorem Grew.row {e size n : Nat} {v v' : Value} {w w' : World} (h : Grew e size n v v' w w') {xs : List Value} (ho : w.ownsRow 0 e size v n xs) {g t k : Nat} {f : Nat → Value} (hr : RowIs w g t k f) (he : e ≠ t) : RowIs w' g t k f :=
  hr.but h.but (fun e1 => row_apart ho hr he e1 rfl)
theorem own_below {w w' : World} {e size n : Nat} {v : Value} {xs : List Value} (h : w.ownsRow 0 e size v n xs) (hb : Below w.heap.size w w') : w'.ownsRow 0 e size v n xs := own_frame h fun g hg => hb.block g (h.lt g hg).2
theorem own_set {w : World} {e size n : Nat} {v : Value} {xs : List Value} (h : w.ownsRow 0 e size v n xs) {g t k : Nat} {f : Nat → Value} (hr : RowIs w g t k f) (he : e ≠ t) (j : Nat) (u : Value) : (w.setCell ⟨g, j, none⟩ u).ownsRow 0 e size v n xs :=
  own_frame h fun _ hg' => heap_setCell_other _ _ _ _ (fun e1 => row_apart h hr he hg' e1)
/-- What an owner of a beginning of one of the three lists, or of none of them, owned: it owns it still. -/
structure Kept (w w' : World) (vb vo vl : Value) (nb no nl : Nat) : Prop where
  but : But (ownX vb vo vl) w w'
  own : ∀ e size u n xs, w.ownsRow 0 e size u n xs → (u.ownBlock ≠ none → u.ownBlock = vb.ownBlock → e = 5 ∧ size = 1 ∧ n ≤ nb) → (u.ownBlock ≠ none → u.ownBlock = vo.ownBlock → e = 43 ∧ size = 6 ∧ n ≤ no) → (u.ownBlock ≠ none → u.ownBlock = vl.ownBlock → e = 59 ∧ size = 1 ∧ n ≤ nl) → w'.ownsRow 0 e size u n xs
theorem Kept.below {w w' : World} {vb vo vl : Value} {nb no nl : Nat} (h : Below w.heap.size w w') : Kept w w' vb vo vl nb no nl :=
  ⟨But.below h, fun _ _ _ _ _ ho _ _ _ => own_below ho h⟩
theorem Kept.trans {a b c : World} {vb vo vl : Value} {nb no nl : Nat} (h : Kept a b vb vo vl nb no nl) (k : Kept b c vb vo vl nb no nl) : Kept a c vb vo vl nb no nl :=
  ⟨h.but.trans k.but, fun e size u n xs ho h1 h2 h3 => k.own e size u n xs (h.own e size u n xs ho h1 h2 h3) h1 h2 h3⟩
theorem Kept.set {a b : World} {vb vo vl : Value} {nb no nl : Nat} (h : Kept a b vb vo vl nb no nl) {p : Addr} (hp : a.heap.size ≤ p.block) (v : Value) : Kept a (b.setCell p v) vb vo vl nb no nl :=
  ⟨h.but.setCell (Or.inr hp) v, fun e size u n xs ho h1 h2 h3 => own_frame (h.own e size u n xs ho h1 h2 h3) fun g hg => heap_setCell_other _ _ _ _ (fun e1 => by have := (ho.lt g hg).2; omega)⟩
theorem own_none {w w' : World} {e size n : Nat} {u : Value} {xs : List Value} (h : w.ownsRow 0 e size u n xs) (hu : u.ownBlock = none) : w'.ownsRow 0 e size u n xs := own_frame h fun g hg => by rw [hu] at hg; cases hg
theorem Kept.grewB {w w' : World} {vb vo vl v' : Value} {nb no nl : Nat} (h : Grew 5 1 nb vb v' w w') : Kept w w' vb vo vl nb no nl :=
  ⟨h.but.mono fun _ e => Or.inl e, fun e size u n xs ho h1 _ _ => by
    by_cases hu : u.ownBlock = none
    · exact own_none ho hu
    · exact h.kept ho (h1 hu)⟩
theorem Kept.grewO {w w' : World} {vb vo vl v' : Value} {nb no nl : Nat} (h : Grew 43 6 no vo v' w w') : Kept w w' vb vo vl nb no nl :=
  ⟨h.but.mono fun _ e => Or.inr (Or.inl e), fun e size u n xs ho _ h1 _ => by
    by_cases hu : u.ownBlock = none
    · exact own_none ho hu
    · exact h.kept ho (h1 hu)⟩
theorem Kept.grewL {w w' : World} {vb vo vl v' : Value} {nb no nl : Nat} (h : Grew 59 1 nl vl v' w w') : Kept w w' vb vo vl nb no nl :=
  ⟨h.but.mono fun _ e => Or.inr (Or.inr e), fun e size u n xs ho _ _ h1 => by
    by_cases hu : u.ownBlock = none
    · exact own_none ho hu
    · exact h.kept ho (h1 hu)⟩
/-- The hold's own three lists are kept. -/
theorem Kept.raw {w w' : World} {hb : Nat} {mk : Int} {vb vo vl : Value} {nb no nl : Nat} {xb xo xl : List Value} (h : HoldRaw w hb mk vb vo vl nb no nl xb xo xl) (k : Kept w w' vb vo vl nb no nl) : HoldRaw w' hb mk vb vo vl nb no nl xb xo xl :=
  ⟨h.row.but k.but (fun e => by
      rcases e with e | e | e
      · exact row_apart h.ob h.row (by decide) e rfl
      · exact row_apart h.oo h.row (by decide) e rfl
      · exact row_apart h.ol h.row (by decide) e rfl),
    k.own _ _ _ _ _ h.ob (fun _ _ => ⟨rfl, rfl, Nat.le_refl _⟩) (fun hn e => absurd e.symm (fun e' => by
      cases hb' : vb.ownBlock with
      | none => exact hn hb'
      | some g => exact own_apart h.ob h.oo (by decide) hb' (by rw [e', hb']))) (fun hn e => absurd e.symm (fun e' => by
      cases hb' : vb.ownBlock with
      | none => exact hn hb'
      | some g => exact own_apart h.ob h.ol (by decide) hb' (by rw [e', hb']))),
    k.own _ _ _ _ _ h.oo (fun hn e => absurd e.symm (fun e' => by
      cases hb' : vo.ownBlock with
      | none => exact hn hb'
      | some g => exact own_apart h.oo h.ob (by decide) hb' (by rw [e', hb']))) (fun _ _ => ⟨rfl, rfl, Nat.le_refl _⟩) (fun hn e => absurd e.symm (fun e' => by
      cases hb' : vo.ownBlock with
      | none => exact hn hb'
      | some g => exact own_apart h.oo h.ol (by decide) hb' (by rw [e', hb']))),
    k.own _ _ _ _ _ h.ol (fun hn e => absurd e.symm (fun e' => by
      cases hb' : vl.ownBlock with
      | none => exact hn hb'
      | some g => exact own_apart h.ol h.ob (by decide) hb' (by rw [e', hb']))) (fun hn e => absurd e.symm (fun e' => by
      cases hb' : vl.ownBlock with
      | none => exact hn hb'
      | some g => exact own_apart h.ol h.oo (by decide) hb' (by rw [e', hb']))) (fun _ _ => ⟨rfl, rfl, Nat.le_refl _⟩)⟩
end Go.Proofs.YtgccjefbedpmpaaGreatDoor
namespace Go.Proofs.YtgccjefbedpmpaaGreatDoor
open Go.RowKit
/-- What an append onto a list of one type leaves of a list of another. -/
theorem Grew.apart {e size n : Nat} {v v' : Value} {w w' : World} (h : Grew e size n v v' w w') {xs : List Value} (hv : w.ownsRow 0 e size v n xs) {e' size' n' : Nat} {u : Value} {ys : List Value} (hu : w.ownsRow 0 e' size' u n' ys) (he : e' ≠ e) : w'.ownsRow 0 e' size' u n' ys := by
  cases hb : u.ownBlock with
  | none => exact own_none hu hb
  | some g => exact h.kept hu fun e1 => absurd (e1.symm.trans hb) (own_apart hu hv he hb)
/-- A longer hold, half made: its lists so far are V1, V2, V3; the list that it will hold lies behind it. -/
structure Mid (w w' : World) (mk : Int) (vb vo vl : Value) (nb no nl : Nat) (V1 V2 V3 : Value) : Prop where
  kept : Kept w w' vb vo vl nb no nl
  row : RowIs w' w.heap.size 161 4 (hold4 V1 V2 V3 mk)
  lstB : w'.heap[w.heap.size + 1]? = some (.cells (lst mk) 5 (0, 0))
  lie1 : ∀ b, V1.ownBlock = some b → vb.ownBlock = some b ∨ w.heap.size + 1 < b
  lie2 : ∀ b, V2.ownBlock = some b → vo.ownBlock = some b ∨ w.heap.size + 1 < b
  lie3 : ∀ b, V3.ownBlock = some b → vl.ownBlock = some b ∨ w.heap.size + 1 < b
theorem Mid.lt {w w' : World} {mk : Int} {vb vo vl : Value} {nb no nl : Nat} {V1 V2 V3 : Value} (h : Mid w w' mk vb vo vl nb no nl V1 V2 V3) : w.heap.size + 1 < w'.heap.size := by
  have := h.lstB
  rcases Nat.lt_or_ge (w.heap.size + 1) w'.heap.size with h1 | h1
  · exact h1
  · rw [Array.getElem?_eq_none h1] at this; cases this
theorem Mid.below {w a b : World} {mk : Int} {vb vo vl : Value} {nb no nl : Nat} {V1 V2 V3 : Value} (h : Mid w a mk vb vo vl nb no nl V1 V2 V3) (hb : Below a.heap.size a b) : Mid w b mk vb vo vl nb no nl V1 V2 V3 :=
  ⟨h.kept.trans (Kept.below hb), h.row.below hb h.row.lt, (hb.block _ h.lt).trans h.lstB, h.lie1, h.lie2, h.lie3⟩
theorem Mid.lstKept {w a b : World} {mk : Int} {vb vo vl : Value} {nb no nl : Nat} {V1 V2 V3 v : Value} (h : Mid w a mk vb vo vl nb no nl V1 V2 V3) (hv : ∀ g, v.ownBlock = some g → g < w.heap.size) (g : But (fun b => v.ownBlock = some b) a b) (j : Nat) (u : Value) :
    (b.setCell ⟨w.heap.size, j, none⟩ u).heap[w.heap.size + 1]? = some (.cells (lst mk) 5 (0, 0)) :=
  (heap_setCell_other _ _ _ _ (by show w.heap.size + 1 ≠ w.heap.size; omega)).trans ((g.block _ h.lt fun e => by have := hv _ e; omega).trans h.lstB)
theorem Mid.grewB {w a b : World} {hb : Nat} {mk : Int} {vb vo vl : Value} {nb no nl : Nat} {xb xo xl : List Value} {V1 V2 V3 V : Value} (h : Mid w a mk vb vo vl nb no nl V1 V2 V3) (hr : HoldRaw w hb mk vb vo vl nb no nl xb xo xl) (g : Grew 5 1 nb vb V a b) :
    Mid w (b.setCell ⟨w.heap.size, 0, none⟩ V) mk vb vo vl nb no nl V V2 V3 :=
  ⟨(h.kept.trans (Kept.grewB g)).set (Nat.le_refl _) _, ((g.row (h.kept.raw hr).ob h.row (by decide)).set 0 V).congr (fun j hj => by match j with | 0 => rfl | 1 => rfl | 2 => rfl | 3 => rfl),
    h.lstKept (fun x hx => (hr.ob.lt x hx).2) g.but 0 V, (fun x hx => by
      rcases g.lies with e | ⟨y, e1, e2⟩
      · exact Or.inl (e ▸ hx)
      · rw [e1] at hx; cases hx; have := h.lt; exact Or.inr (by omega)), h.lie2, h.lie3⟩
theorem Mid.grewO {w a b : World} {hb : Nat} {mk : Int} {vb vo vl : Value} {nb no nl : Nat} {xb xo xl : List Value} {V1 V2 V3 V : Value} (h : Mid w a mk vb vo vl nb no nl V1 V2 V3) (hr : HoldRaw w hb mk vb vo vl nb no nl xb xo xl) (g : Grew 43 6 no vo V a b) :
    Mid w (b.setCell ⟨w.heap.size, 1, none⟩ V) mk vb vo vl nb no nl V1 V V3 :=
  ⟨(h.kept.trans (Kept.grewO g)).set (Nat.le_refl _) _, ((g.row (h.kept.raw hr).oo h.row (by decide)).set 1 V).congr (fun j hj => by match j with | 0 => rfl | 1 => rfl | 2 => rfl | 3 => rfl),
    h.lstKept (fun x hx => (hr.oo.lt x hx).2) g.but 1 V, h.lie1, (fun x hx => by
      rcases g.lies with e | ⟨y, e1, e2⟩
      · exact Or.inl (e ▸ hx)
      · rw [e1] at hx; cases hx; have := h.lt; exact Or.inr (by omega)), h.lie3⟩
theorem Mid.grewL {w a b : World} {hb : Nat} {mk : Int} {vb vo vl : Value} {nb no nl : Nat} {xb xo xl : List Value} {V1 V2 V3 V : Value} (h : Mid w a mk vb vo vl nb no nl V1 V2 V3) (hr : HoldRaw w hb mk vb vo vl nb no nl xb xo xl) (g : Grew 59 1 nl vl V a b) :
    Mid w (b.setCell ⟨w.heap.size, 2, none⟩ V) mk vb vo vl nb no nl V1 V2 V :=
  ⟨(h.kept.trans (Kept.grewL g)).set (Nat.le_refl _) _, ((g.row (h.kept.raw hr).ol h.row (by decide)).set 2 V).congr (fun j hj => by match j with | 0 => rfl | 1 => rfl | 2 => rfl | 3 => rfl),
    h.lstKept (fun x hx => (hr.ol.lt x hx).2) g.but 2 V, h.lie1, h.lie2, (fun x hx => by
      rcases g.lies with e | ⟨y, e1, e2⟩
      · exact Or.inl (e ▸ hx)
      · rw [e1] at hx; cases hx; have := h.lt; exact Or.inr (by omega))⟩
theorem signs_succ (mk : Int) (n : Nat) : signs mk (n + 1) = signs mk n ++ [.int .u8 (sg mk n)] := by simp [signs, List.range_succ]
theorem opms_succ (mk : Int) (n : Nat) : opms mk (n + 1) = opms mk n ++ [.int .i64 9, .int .u32 0, .int .u32 0, .int .u32 0, .int .u64 mk, .int .i32 0] := by
  unfold opms
  rw [Nat.add_mul, Nat.one_mul, List.range_add, List.map_append]
  congr 1
  simp [List.range_succ, opc]
end Go.Proofs.YtgccjefbedpmpaaGreatDoor
namespace Go.Proofs.YtgccjefbedpmpaaGreatDoor
open Go.RowKit
set_option maxRecDepth 100000 in
set_option maxHeartbeats 2000000 in
theorem longer_any {hb : Nat} {mk : Int} {vb vo vl : Value} {nb no nl : Nat} {ls : List Value} {w : World} (h : HoldRaw w hb mk vb vo vl nb no nl (signs mk nb) (opms mk no) ls) (hmk : 0 ≤ mk) (hmk2 : mk ≤ 9223372036854775807)
    (s1 : nb + 1 ≤ 140737488355328) (s2 : (no + 1) * 40 ≤ 140737488355328) (s3 : (nl + 1) * 24 ≤ 140737488355328) :
    Calls Tryz.prog 142 #[.pointer (some ⟨hb, 0, none⟩)] w fun e w' => e = .returned (.pointer (some ⟨w.heap.size, 0, none⟩)) ∧ ∃ V1 V2 V3, HoldRaw w' w.heap.size mk V1 V2 V3 (nb + 1) (no + 1) (nl + 1) (signs mk (nb + 1)) (opms mk (no + 1)) (ls ++ [.slice (some ⟨w.heap.size + 1, 0, none⟩) 3 3]) ∧ Mid w w' mk vb vo vl nb no nl V1 V2 V3 := by
  obtain ⟨ib, bi, bz0, bz1, bz2⟩ := info_parts infoB
  obtain ⟨io, oi, oz0, oz1, oz2⟩ := info_parts infoO
  obtain ⟨il, li, lz0, lz1, lz2⟩ := info_parts infoL
  have h0 : w.cell? ⟨hb, 0, none⟩ = some vb := h.row.cell (by omega)
  have h1 : w.cell? ⟨hb, 1, none⟩ = some vo := h.row.cell (by omega)
  have h2 : w.cell? ⟨hb, 2, none⟩ = some vl := h.row.cell (by omega)
  have h3 : w.cell? ⟨hb, 3, none⟩ = some (.int .i64 mk) := h.row.cell (by omega)
  obtain ⟨ab, cb, rfl, -⟩ := own_viewN h.ob
  have hbl := h.row.lt
  go_enter Tryz.func142, Tryz.ntmps142
  go_wp2
  go_quiet ((go_at_call 151; refine (sign_any _ _ _).mono ?_; rintro e w' ⟨rfl, rfl⟩; first | exact ⟨rfl, _, rfl⟩))
  have hB1 : Below w.heap.size w (((w.alloc (.cells #[.slice none 0 0, .slice none 0 0, .slice none 0 0, .int .i64 mk] 161)).drewN nq).alloc (.cells (lst mk) 5)) := (below_drewN ((Below.refl _ _).alloc (Nat.le_refl _) _) _).alloc (by simp) _
  have hB2 := hB1.alloc hB1.size (.cells #[.int .u8 (sg mk nb)] 5)
  have rB0 := ((RowIs.drewM (RowIs.last (w := w) (t := 161) (cs := #[.slice none 0 0, .slice none 0 0, .slice none 0 0, .int .i64 mk]) (n := 4) (f := hold4 (.slice none 0 0) (.slice none 0 0) (.slice none 0 0) mk) rfl rfl) nq).alloc (.cells (lst mk) 5)).alloc (.cells #[.int .u8 (sg mk nb)] 5)
  have hM0 : Mid w _ mk (.slice ab nb cb) vo vl nb no nl (.slice none 0 0) (.slice none 0 0) (.slice none 0 0) := ⟨Kept.below hB2, rB0, (heap_old (by simp)).trans (heap_last (by simp)), fun b hx => (by cases hx), fun b hx => (by cases hx), fun b hx => (by cases hx)⟩
  go_wp2_with (first
    | (go_at_call 152; refine (listed_any _ _).mono ?_; rintro e w' ⟨rfl, rfl⟩)
    | (at_builtin; refine wpList_append_keep _ rfl (.tmp 31) (.tmp 33) 59 rfl 5 ib (.int .u8 0) 1 1 Tryz.underlying59 bi bz0 bz1 bz2 rfl (by decide) (.slice ab nb cb) nb (signs mk nb) rfl (own_below h.ob hB2) ⟨w.heap.size + 2, 0, none⟩ 1 1 [.int .u8 (sg mk nb)] rfl rfl ?hn (by simp [Value.oneCell']) (by omega) (by unfold maxLen; omega) (by omega) ?_; (case hn => exact World.news_of_block (heap_last (by simp))); intro v1 w1 ho1 hg1; obtain ⟨a1, c1, rfl, -⟩ := own_viewN ho1; have hM1 := hM0.grewB h hg1; have ho1' := own_set ho1 (hg1.row (own_below h.ob hB2) rB0 (by decide)) (by decide) 0 (.slice a1 (nb + 1) c1); have rB := hg1.row (own_below h.ob hB2) rB0 (by decide); have b0 := rB.cell (show 0 < 4 by omega); have fb := rB.free 0))
  obtain ⟨wA, hwA⟩ : ∃ x, x = w1.setCell ⟨w.heap.size, 0, none⟩ (.slice a1 (nb + 1) c1) := ⟨_, rfl⟩
  rw [← hwA] at hM1 ho1' ⊢
  clear hwA b0 fb rB hg1 ho1 hM0 rB0 hB2 hB1 w1 h0 h1 h2 h3
  rw [← signs_succ] at ho1'
  have hrA := hM1.kept.raw h
  have p1 : wA.cell? ⟨hb, 1, none⟩ = some vo := hrA.row.cell (by omega)
  have p3 : wA.cell? ⟨hb, 3, none⟩ = some (.int .i64 mk) := hrA.row.cell (by omega)
  have wu : IntKind.u64.wrap mk = mk := by have := hmk; have := hmk2; simp [IntKind.wrap, IntKind.bits, IntKind.signed]; omega
  have hba : hb < wA.heap.size := hrA.row.lt
  have hBo : Below wA.heap.size wA (wA.alloc (.cells #[.int .i64 9, .int .u32 0, .int .u32 0, .int .u32 0, .int .u64 mk, .int .i32 0] 43)).drew := below_drewN ((Below.refl _ _).alloc (Nat.le_refl _) _) 1
  have oO := own_below hrA.oo hBo
  have hMo := hM1.below hBo
  go_region_held3 (fun w' => w'.cell? ⟨hb, 1, none⟩ = some vo ∧ w'.cell? ⟨hb, 3, none⟩ = some (.int .i64 mk)) (go_keep) (((refine step_append_keep _ rfl (.tmp 41) (.tmp 48) 32 rfl 43 io _ 6 40 Tryz.underlying32 oi oz0 oz1 oz2 rfl (by decide) vo no (opms mk no) rfl oO ⟨wA.heap.size, 0, none⟩ 1 1 [.int .i64 9, .int .u32 0, .int .u32 0, .int .u32 0, .int .u64 mk, .int .i32 0] rfl rfl ?hn (by simp [Value.oneCell']) (by omega) (by unfold maxLen; omega) (by omega) ?_); (case hn => exact World.news_of_block (heap_alloc_new wA _)); (intro v2 w2 ho2 hg2; obtain ⟨a2, c2, rfl, -⟩ := own_viewN ho2; have hM2 := hMo.grewO h hg2; have rH2 := hg2.row oO (hrA.row.below hBo hba) (by decide); have rB2 := hg2.row oO hMo.row (by decide); have ho1'' := own_set (hg2.apart oO (own_below ho1' hBo) (by decide)) rB2 (by decide) 1 (.slice a2 (no + 1) c2); have ho2' := own_set ho2 rB2 (by decide) 1 (.slice a2 (no + 1) c2); have b1 := rB2.cell (show 1 < 4 by omega); have fb1 := rB2.free 1; have hS2 : w2.cell? ⟨hb, 1, none⟩ = some vo ∧ w2.cell? ⟨hb, 3, none⟩ = some (.int .i64 mk) := ⟨rH2.cell (by omega), rH2.cell (by omega)⟩; have q1 := setCell_two (k := 1) (show w.heap.size ≠ hb by omega) hS2.1 (.slice a2 (no + 1) c2); have q3 := setCell_two (k := 1) (show w.heap.size ≠ hb by omega) hS2.2 (.slice a2 (no + 1) c2); have hS3 := And.intro q1 q3)))
  obtain ⟨wB, hwB⟩ : ∃ x, x = w2.setCell ⟨w.heap.size, 1, none⟩ (.slice a2 (no + 1) c2) := ⟨_, rfl⟩
  rw [← hwB] at hM2 ho1'' ho2' ⊢
  clear hwB b1 fb1 rB2 rH2 hg2 ho2 hMo oO hBo hS2 q1 q3 hS3
  rw [← opms_succ] at ho2'
  have hrB := hM2.kept.raw h
  have r2 : wB.cell? ⟨hb, 2, none⟩ = some vl := hrB.row.cell (by omega)
  have hBl : Below wB.heap.size wB (wB.alloc (.cells #[.slice (some ⟨w.heap.size + 1, 0, none⟩) 3 3] 59)) := (Below.refl _ _).alloc (Nat.le_refl _) _
  have oL := own_below hrB.ol hBl
  have hMl := hM2.below hBl
  go_wp2_with (first
    | (at_builtin; refine wpList_append_keep _ rfl (.tmp 56) (.tmp 58) 66 rfl 59 il (.slice none 0 0) 1 24 Tryz.underlying66 li lz0 lz1 lz2 rfl (by decide) vl nl ls rfl oL ⟨wB.heap.size, 0, none⟩ 1 1 [.slice (some ⟨w.heap.size + 1, 0, none⟩) 3 3] rfl rfl ?hn (by simp [Value.oneCell']) (by omega) (by unfold maxLen; omega) (by omega) ?_; (case hn => exact World.news_of_block (heap_alloc_new wB _)); intro v3 w3 ho3 hg3; obtain ⟨a3, c3, rfl, -⟩ := own_viewN ho3; have hM3 := hMl.grewL h hg3; have rB3 := hg3.row oL hMl.row (by decide); have h1'' := own_set (hg3.apart oL (own_below ho1'' hBl) (by decide)) rB3 (by decide) 2 (.slice a3 (nl + 1) c3); have h2'' := own_set (hg3.apart oL (own_below ho2' hBl) (by decide)) rB3 (by decide) 2 (.slice a3 (nl + 1) c3); have h3'' := own_set ho3 rB3 (by decide) 2 (.slice a3 (nl + 1) c3); have b2 := rB3.cell (show 2 < 4 by omega); have fb2 := rB3.free 2))
  go_ret
  exact ⟨rfl, _, _, _, ⟨hM3.row, h1'', h2'', h3''⟩, hM3⟩
end Go.Proofs.YtgccjefbedpmpaaGreatDoor
namespace Go.Proofs.YtgccjefbedpmpaaGreatDoor
open Go.RowKit
/-- A hold of the family of one mark: it reads as marked, and where its lists share a block with the newest one's they are no longer than those. -/
structure Fam (w : World) (F : Nat → Prop) (x : Nat) (mk : Int) (V1 V2 V3 : Value) (n1 n2 n3 : Nat) : Prop where
  inF : F x
  row : ∃ vb vo vl nb no nl ls, RowIs w x 161 4 (hold4 vb vo vl mk) ∧
    (w.ownsRow 0 5 1 vb nb (signs mk nb) ∧ (∀ g, vb.ownBlock = some g → F g) ∧ ∀ g, vb.ownBlock = some g → V1.ownBlock = some g → nb ≤ n1) ∧
    (w.ownsRow 0 43 6 vo no (opms mk no) ∧ (∀ g, vo.ownBlock = some g → F g) ∧ ∀ g, vo.ownBlock = some g → V2.ownBlock = some g → no ≤ n2) ∧
    (w.ownsRow 0 59 1 vl nl ls ∧ (∀ g, vl.ownBlock = some g → F g) ∧ ∀ g, vl.ownBlock = some g → V3.ownBlock = some g → nl ≤ n3) ∧
    ∀ v ∈ ls, ListOk w (fun b => F b ∧ ¬ ownX V1 V2 V3 b) mk v
theorem ListOk.mono {w : World} {F F' : Nat → Prop} {mk : Int} {v : Value} (h : ListOk w F mk v) (hF : ∀ b, F b → F' b) : ListOk w F' mk v := h.frame hF fun _ _ => rfl
theorem Fam.ok {w : World} {F : Nat → Prop} {x : Nat} {mk : Int} {V1 V2 V3 : Value} {n1 n2 n3 : Nat} (h : Fam w F x mk V1 V2 V3 n1 n2 n3) (hp : 0 ≤ mk ∧ mk ≤ 9223372036854775807) : ∃ nb no nl, HoldOk w F x mk nb no nl := by
  obtain ⟨vb, vo, vl, nb, no, nl, ls, h1, h2, h3, h4, h5⟩ := h.row
  exact ⟨nb, no, nl, h.inF, hp, vb, vo, vl, ls, h1, ⟨h2.1, h2.2.1⟩, ⟨h3.1, h3.2.1⟩, ⟨h4.1, h4.2.1⟩, fun v hv => (h5 v hv).mono fun _ e => e.1⟩
theorem Fam.frame {w w' : World} {F F' : Nat → Prop} {x : Nat} {mk : Int} {V1 V2 V3 : Value} {n1 n2 n3 : Nat} (h : Fam w F x mk V1 V2 V3 n1 n2 n3) (hF : ∀ b, F b → F' b) (hf : ∀ b, F b → w'.heap[b]? = w.heap[b]?) : Fam w' F' x mk V1 V2 V3 n1 n2 n3 := by
  obtain ⟨vb, vo, vl, nb, no, nl, ls, h1, h2, h3, h4, h5⟩ := h.row
  exact ⟨hF _ h.inF, vb, vo, vl, nb, no, nl, ls, (hf _ h.inF).trans h1, ⟨own_frame h2.1 fun g hg => hf g (h2.2.1 g hg), fun g hg => hF g (h2.2.1 g hg), h2.2.2⟩,
    ⟨own_frame h3.1 fun g hg => hf g (h3.2.1 g hg), fun g hg => hF g (h3.2.1 g hg), h3.2.2⟩, ⟨own_frame h4.1 fun g hg => hf g (h4.2.1 g hg), fun g hg => hF g (h4.2.1 g hg), h4.2.2⟩,
    fun v hv => (h5 v hv).frame (fun b e => ⟨hF b e.1, e.2⟩) fun b e => hf b e.1⟩
theorem Fam.of_raw {w : World} {F : Nat → Prop} {x : Nat} {mk : Int} {V1 V2 V3 : Value} {n1 n2 n3 : Nat} {ls : List Value} (h : HoldRaw w x mk V1 V2 V3 n1 n2 n3 (signs mk n1) (opms mk n2) ls) (hx : F x) (hV : ∀ b, ownX V1 V2 V3 b → F b) (hl : ∀ v ∈ ls, ListOk w (fun b => F b ∧ ¬ ownX V1 V2 V3 b) mk v) :
    Fam w F x mk V1 V2 V3 n1 n2 n3 :=
  ⟨hx, V1, V2, V3, n1, n2, n3, ls, h.row, ⟨h.ob, fun g hg => hV g (Or.inl hg), fun _ _ _ => Nat.le_refl _⟩, ⟨h.oo, fun g hg => hV g (Or.inr (Or.inl hg)), fun _ _ _ => Nat.le_refl _⟩, ⟨h.ol, fun g hg => hV g (Or.inr (Or.inr hg)), fun _ _ _ => Nat.le_refl _⟩, hl⟩
theorem row_notX {w : World} {g : Nat} {mk : Int} {V1 V2 V3 : Value} {n1 n2 n3 : Nat} {xb xo xl : List Value} (hr : HoldRaw w g mk V1 V2 V3 n1 n2 n3 xb xo xl) {x t k : Nat} {f : Nat → Value} (h : RowIs w x t k f) (h1 : 5 ≠ t) (h2 : 43 ≠ t) (h3 : 59 ≠ t) : ¬ ownX V1 V2 V3 x := fun e => by
  rcases e with e | e | e
  · exact row_apart hr.ob h h1 e rfl
  · exact row_apart hr.oo h h2 e rfl
  · exact row_apart hr.ol h h3 e rfl
theorem Mid.notX {w w' : World} {mk : Int} {vb vo vl : Value} {nb no nl : Nat} {V1 V2 V3 : Value} (m : Mid w w' mk vb vo vl nb no nl V1 V2 V3) {b : Nat} (hb : b ≤ w.heap.size + 1) (h : ¬ ownX vb vo vl b) : ¬ ownX V1 V2 V3 b := fun e => by
  rcases e with e | e | e
  · rcases m.lie1 b e with e | e
    · exact h (Or.inl e)
    · omega
  · rcases m.lie2 b e with e | e
    · exact h (Or.inr (Or.inl e))
    · omega
  · rcases m.lie3 b e with e | e
    · exact h (Or.inr (Or.inr e))
    · omega
theorem Mid.lists {w w' : World} {F F' : Nat → Prop} {mk : Int} {V1 V2 V3 U1 U2 U3 : Value} {n1 n2 n3 : Nat} (m : Mid w w' mk V1 V2 V3 n1 n2 n3 U1 U2 U3) (hF : ∀ b, F b → F' b) (hFw : ∀ b, F b → b < w.heap.size) {v : Value} (h : ListOk w (fun b => F b ∧ ¬ ownX V1 V2 V3 b) mk v) :
    ListOk w' (fun b => F' b ∧ ¬ ownX U1 U2 U3 b) mk v :=
  h.frame (fun b e => ⟨hF b e.1, m.notX (by have := hFw b e.1; omega) e.2⟩) fun b e => m.kept.but.block b (hFw b e.1) e.2
theorem Fam.step {w w' : World} {F F' : Nat → Prop} {x g : Nat} {mk : Int} {V1 V2 V3 U1 U2 U3 : Value} {n1 n2 n3 : Nat} {xb xo xl : List Value} (h : Fam w F x mk V1 V2 V3 n1 n2 n3) (hr : HoldRaw w g mk V1 V2 V3 n1 n2 n3 xb xo xl) (m : Mid w w' mk V1 V2 V3 n1 n2 n3 U1 U2 U3)
    (hF : ∀ b, F b → F' b) (hFw : ∀ b, F b → b < w.heap.size) : Fam w' F' x mk U1 U2 U3 (n1 + 1) (n2 + 1) (n3 + 1) := by
  obtain ⟨vb, vo, vl, nb, no, nl, ls, h1, h2, h3, h4, h5⟩ := h.row
  have key : ∀ {u v : Value} {n e' s' n' : Nat} {e s : Nat} {ys zs : List Value} {A : Prop}, w.ownsRow 0 e s u n ys → w.ownsRow 0 e' s' v n' zs → e ≠ e' → u.ownBlock ≠ none → u.ownBlock = v.ownBlock → A := fun {u} _ _ _ _ _ _ _ _ _ _ a b c d f => by
    cases hg : u.ownBlock with
    | none => exact absurd hg d
    | some y => exact absurd (f.symm.trans hg) (own_apart a b c hg)
  refine ⟨hF _ h.inF, vb, vo, vl, nb, no, nl, ls, h1.but m.kept.but (row_notX hr h1 (by decide) (by decide) (by decide)), ⟨m.kept.own _ _ _ _ _ h2.1 ?_ (key h2.1 hr.oo (by decide)) (key h2.1 hr.ol (by decide)), fun y hy => hF y (h2.2.1 y hy), ?_⟩,
    ⟨m.kept.own _ _ _ _ _ h3.1 (key h3.1 hr.ob (by decide)) ?_ (key h3.1 hr.ol (by decide)), fun y hy => hF y (h3.2.1 y hy), ?_⟩, ⟨m.kept.own _ _ _ _ _ h4.1 (key h4.1 hr.ob (by decide)) (key h4.1 hr.oo (by decide)) ?_, fun y hy => hF y (h4.2.1 y hy), ?_⟩, fun v hv => m.lists hF hFw (h5 v hv)⟩
  · intro a b
    cases hg : vb.ownBlock with
    | none => exact absurd hg a
    | some y => exact ⟨rfl, rfl, h2.2.2 y hg (b.symm.trans hg)⟩
  · intro y hy hU
    rcases m.lie1 y hU with e | e
    · have := h2.2.2 y hy e; omega
    · have := (h2.1.lt y hy).2; omega
  · intro a b
    cases hg : vo.ownBlock with
    | none => exact absurd hg a
    | some y => exact ⟨rfl, rfl, h3.2.2 y hg (b.symm.trans hg)⟩
  · intro y hy hU
    rcases m.lie2 y hU with e | e
    · have := h3.2.2 y hy e; omega
    · have := (h3.1.lt y hy).2; omega
  · intro a b
    cases hg : vl.ownBlock with
    | none => exact absurd hg a
    | some y => exact ⟨rfl, rfl, h4.2.2 y hg (b.symm.trans hg)⟩
  · intro y hy hU
    rcases m.lie3 y hU with e | e
    · have := h4.2.2 y hy e; omega
    · have := (h4.1.lt y hy).2; omega
end Go.Proofs.YtgccjefbedpmpaaGreatDoor
namespace Go.Proofs.YtgccjefbedpmpaaGreatDoor
open Go.RowKit
/-- The blocks of the family of the hold that is kept. -/
def Gof (w wr : World) (hb : Nat) (vb vo vl vH : Value) (b : Nat) : Prop := b = hb ∨ ownX vb vo vl b ∨ (w.heap.size ≤ b ∧ b < wr.heap.size ∧ vH.ownBlock ≠ some b)
/-- What keep writes into. -/
def Xof (wd hb : Nat) (vb vo vl vH : Value) (b : Nat) : Prop := b = wd ∨ b = hb ∨ ownX vb vo vl b ∨ vH.ownBlock = some b
structure Pre (w : World) (wd : Nat) (R : Nat → Int) (vP vH : Value) (F : Nat → Prop) (hs : List Nat) (hb : Nat) (vb vo vl : Value) : Prop where
  ok : WOk w wd R vP vH F hs
  far : ∀ b, (b = hb ∨ ownX vb vo vl b) → b < w.heap.size ∧ ¬ F b ∧ b ≠ wd ∧ vH.ownBlock ≠ some b
structure Kst (w wr : World) (wd : Nat) (R : Nat → Int) (vP vH : Value) (F : Nat → Prop) (hs : List Nat) (hb : Nat) (vb vo vl : Value) (mk : Int) (j n1 n2 n3 : Nat) (vH' : Value) (hs' : List Nat) (g : Nat) (V1 V2 V3 : Value) (ls : List Value) : Prop where
  row : RowIs wr wd 90 74 (wcell R vP vH')
  own : wr.ownsRow 0 159 1 vH' (hs.length + j) (ptrs hs')
  len : hs'.length = hs.length + j
  lieH : ∀ b, vH'.ownBlock = some b → vH.ownBlock = some b ∨ w.heap.size ≤ b
  old : ∀ x ∈ hs', (∃ mk nb no nl, HoldOk wr F x mk nb no nl) ∨ Fam wr (Gof w wr hb vb vo vl vH') x mk V1 V2 V3 n1 n2 n3
  raw : HoldRaw wr g mk V1 V2 V3 n1 n2 n3 (signs mk n1) (opms mk n2) ls
  lists : ∀ v ∈ ls, ListOk wr (fun b => Gof w wr hb vb vo vl vH' b ∧ ¬ ownX V1 V2 V3 b) mk v
  inG : Gof w wr hb vb vo vl vH' g
  ownG : ∀ b, ownX V1 V2 V3 b → Gof w wr hb vb vo vl vH' b
  but : But (Xof wd hb vb vo vl vH) w wr
section
variable {w wr : World} {wd : Nat} {R : Nat → Int} {vP vH : Value} {F : Nat → Prop} {hs : List Nat} {hb : Nat} {vb vo vl : Value} {mk : Int} {j n1 n2 n3 : Nat} {vH' : Value} {hs' : List Nat} {g : Nat} {V1 V2 V3 : Value} {ls : List Value}
theorem Gof.lt (p : Pre w wd R vP vH F hs hb vb vo vl) (hs : w.heap.size ≤ wr.heap.size) {b : Nat} (h : Gof w wr hb vb vo vl vH' b) : b < wr.heap.size := by
  rcases h with h | h | h
  · have := (p.far b (Or.inl h)).1; omega
  · have := (p.far b (Or.inr h)).1; omega
  · exact h.2.1
theorem Gof.notF (p : Pre w wd R vP vH F hs hb vb vo vl) {b : Nat} (h : Gof w wr hb vb vo vl vH' b) : ¬ F b := by
  rcases h with h | h | h
  · exact (p.far b (Or.inl h)).2.1
  · exact (p.far b (Or.inr h)).2.1
  · exact fun e => by have := p.ok.below b e; omega
theorem Gof.notWd (p : Pre w wd R vP vH F hs hb vb vo vl) {b : Nat} (h : Gof w wr hb vb vo vl vH' b) : b ≠ wd := by
  rcases h with h | h | h
  · exact (p.far b (Or.inl h)).2.2.1
  · exact (p.far b (Or.inr h)).2.2.1
  · exact fun e => by have := p.ok.row.lt; omega
theorem Kst.F_notH (k : Kst w wr wd R vP vH F hs hb vb vo vl mk j n1 n2 n3 vH' hs' g V1 V2 V3 ls) (p : Pre w wd R vP vH F hs hb vb vo vl) {b : Nat} (h : F b) : vH'.ownBlock ≠ some b := fun e => by
  rcases k.lieH b e with e1 | e1
  · exact (p.ok.apart.2 b e1).1 h
  · have := p.ok.below b h; omega
theorem Kst.G_notH (k : Kst w wr wd R vP vH F hs hb vb vo vl mk j n1 n2 n3 vH' hs' g V1 V2 V3 ls) (p : Pre w wd R vP vH F hs hb vb vo vl) {b : Nat} (h : Gof w wr hb vb vo vl vH' b) : vH'.ownBlock ≠ some b := fun e => by
  rcases h with h | h | h
  · rcases k.lieH b e with e1 | e1
    · exact (p.far b (Or.inl h)).2.2.2 e1
    · have := (p.far b (Or.inl h)).1; omega
  · rcases k.lieH b e with e1 | e1
    · exact (p.far b (Or.inr h)).2.2.2 e1
    · have := (p.far b (Or.inr h)).1; omega
  · exact h.2.2 e
/-- In the end all is well. -/
theorem Kst.ok (k : Kst w wr wd R vP vH F hs hb vb vo vl mk j n1 n2 n3 vH' hs' g V1 V2 V3 ls) (p : Pre w wd R vP vH F hs hb vb vo vl) (hp : 0 ≤ mk ∧ mk ≤ 9223372036854775807) :
    WOk wr wd R vP vH' (fun b => F b ∨ Gof w wr hb vb vo vl vH' b) hs' :=
  ⟨k.row, by rw [k.len]; exact k.own, fun x hx => by
      rcases k.old x hx with ⟨m, a, b, c, h⟩ | h
      · exact ⟨m, a, b, c, h.mono fun _ e => Or.inl e⟩
      · obtain ⟨a, b, c, h⟩ := h.ok hp
        exact ⟨mk, a, b, c, h.mono fun _ e => Or.inr e⟩,
    ⟨fun e => e.elim p.ok.apart.1 fun e => Gof.notWd p e rfl, fun y hy => ⟨fun e => e.elim (fun e => k.F_notH p e hy) fun e => k.G_notH p e hy, row_apart k.own k.row (by decide) hy⟩⟩,
    fun b e => e.elim (fun e => Nat.lt_of_lt_of_le (p.ok.below b e) k.but.size) fun e => Gof.lt p k.but.size e⟩
/-- One longer hold. -/
theorem Kst.longer (k : Kst w wr wd R vP vH F hs hb vb vo vl mk j n1 n2 n3 vH' hs' g V1 V2 V3 ls) (p : Pre w wd R vP vH F hs hb vb vo vl) {w1 : World} {U1 U2 U3 : Value}
    (hr : HoldRaw w1 wr.heap.size mk U1 U2 U3 (n1 + 1) (n2 + 1) (n3 + 1) (signs mk (n1 + 1)) (opms mk (n2 + 1)) (ls ++ [.slice (some ⟨wr.heap.size + 1, 0, none⟩) 3 3])) (m : Mid wr w1 mk V1 V2 V3 n1 n2 n3 U1 U2 U3) :
    Kst w w1 wd R vP vH F hs hb vb vo vl mk j (n1 + 1) (n2 + 1) (n3 + 1) vH' hs' wr.heap.size U1 U2 U3 (ls ++ [.slice (some ⟨wr.heap.size + 1, 0, none⟩) 3 3]) := by
  have hsz := m.lt
  have hws := k.but.size
  have hHlt : ∀ b, vH'.ownBlock = some b → b < wr.heap.size := fun b e => (k.own.lt b e).2
  have hG : ∀ b, Gof w wr hb vb vo vl vH' b → Gof w w1 hb vb vo vl vH' b := fun b e => by
    rcases e with e | e | e
    · exact Or.inl e
    · exact Or.inr (Or.inl e)
    · exact Or.inr (Or.inr ⟨e.1, by omega, e.2.2⟩)
  have hnew : ∀ b, wr.heap.size ≤ b → b < w1.heap.size → Gof w w1 hb vb vo vl vH' b := fun b h1 h2 => Or.inr (Or.inr ⟨by omega, h2, fun e => by have := hHlt b e; omega⟩)
  have hXF : ∀ b, F b → ¬ ownX V1 V2 V3 b := fun b e e1 => Gof.notF p (k.ownG b e1) e
  refine ⟨k.row.but m.kept.but fun e => Gof.notWd p (k.ownG _ e) rfl, own_frame k.own fun y hy => m.kept.but.block y (hHlt y hy) fun e => k.G_notH p (k.ownG _ e) hy, k.len, k.lieH, fun x hx => ?_, hr, fun v hv => ?_, hnew _ (Nat.le_refl _) (by omega), fun b e => ?_, ?_⟩
  · rcases k.old x hx with ⟨a, b, c, d, h⟩ | h
    · exact Or.inl ⟨a, b, c, d, h.frame fun y hy => m.kept.but.block y (Nat.lt_of_lt_of_le (p.ok.below y hy) hws) (hXF y hy)⟩
    · exact Or.inr (h.step k.raw m hG fun b e => Gof.lt p hws e)
  · rcases List.mem_append.1 hv with hv | hv
    · exact m.lists hG (fun b e => Gof.lt p hws e) (k.lists v hv)
    · rw [List.mem_singleton] at hv
      subst hv
      exact ⟨_, rfl, ⟨hnew _ (by omega) hsz, m.notX (Nat.le_refl _) fun e => by have := Gof.lt p hws (k.ownG _ e); omega⟩, m.lstB⟩
  · have hlt : b < w1.heap.size := by
      rcases e with e | e | e
      · exact (hr.ob.lt b e).2
      · exact (hr.oo.lt b e).2
      · exact (hr.ol.lt b e).2
    rcases Nat.lt_or_ge b wr.heap.size with hb | hb
    · refine hG b (k.ownG b ?_)
      rcases e with e | e | e
      · exact Or.inl ((m.lie1 b e).resolve_right (by omega))
      · exact Or.inr (Or.inl ((m.lie2 b e).resolve_right (by omega)))
      · exact Or.inr (Or.inr ((m.lie3 b e).resolve_right (by omega)))
    · exact hnew b hb hlt
  · refine ⟨by omega, m.kept.but.os.trans k.but.os, m.kept.but.tape.trans k.but.tape, m.kept.but.output.trans k.but.output, fun b hb hx => (m.kept.but.block b (by omega) fun e => ?_).trans (k.but.block b hb hx)⟩
    rcases k.ownG b e with e | e | e
    · exact hx (Or.inr (Or.inl e))
    · exact hx (Or.inr (Or.inr (Or.inl e)))
    · omega
/-- The newest hold is put behind the list of holds. -/
theorem Kst.push (k : Kst w wr wd R vP vH F hs hb vb vo vl mk j n1 n2 n3 vH' hs' g V1 V2 V3 ls) (p : Pre w wd R vP vH F hs hb vb vo vl) {wa w2 : World} {U : Value} (ha : Below wr.heap.size wr wa)
    (hg : Grew 159 1 (hs.length + j) vH' U wa w2) (ho : w2.ownsRow 0 159 1 U (hs.length + j + 1) (ptrs hs' ++ [.pointer (some ⟨g, 0, none⟩)])) :
    Kst w (w2.setCell ⟨wd, 73, none⟩ U) wd R vP vH F hs hb vb vo vl mk (j + 1) n1 n2 n3 U (hs' ++ [g]) g V1 V2 V3 ls := by
  have hws := k.but.size
  have has := ha.size
  have h2s := hg.but.size
  have hwd := k.row.lt
  have hss : (w2.setCell ⟨wd, 73, none⟩ U).heap.size = w2.heap.size := by simp [World.setCell]
  have rw2 : RowIs w2 wd 90 74 (wcell R vP vH') := hg.row (own_below k.own ha) (k.row.below ha hwd) (by decide)
  have hU : ∀ b, U.ownBlock = some b → vH'.ownBlock = some b ∨ wr.heap.size ≤ b := fun b e => by
    rcases hg.lies with e1 | ⟨y, e1, e2⟩
    · exact Or.inl (e1 ▸ e)
    · rw [e1] at e; cases e; exact Or.inr (by omega)
  have hG : ∀ b, Gof w wr hb vb vo vl vH' b → Gof w (w2.setCell ⟨wd, 73, none⟩ U) hb vb vo vl U b := fun b e => by
    rcases e with e | e | e
    · exact Or.inl e
    · exact Or.inr (Or.inl e)
    · refine Or.inr (Or.inr ⟨e.1, by omega, fun e1 => ?_⟩)
      rcases hU b e1 with e2 | e2
      · exact e.2.2 e2
      · omega
  have hf : ∀ b, b < wr.heap.size → vH'.ownBlock ≠ some b → b ≠ wd → (w2.setCell ⟨wd, 73, none⟩ U).heap[b]? = wr.heap[b]? := fun b h1 h2 h3 =>
    (heap_setCell_other _ _ _ _ h3).trans ((hg.but.block b (by omega) h2).trans (ha.block b h1))
  have hfG : ∀ b, Gof w wr hb vb vo vl vH' b → (w2.setCell ⟨wd, 73, none⟩ U).heap[b]? = wr.heap[b]? := fun b e => hf b (Gof.lt p hws e) (k.G_notH p e) (Gof.notWd p e)
  have hfF : ∀ b, F b → (w2.setCell ⟨wd, 73, none⟩ U).heap[b]? = wr.heap[b]? := fun b e => hf b (Nat.lt_of_lt_of_le (p.ok.below b e) hws) (k.F_notH p e) fun e1 => p.ok.apart.1 (e1 ▸ e)
  have hraw : HoldRaw (w2.setCell ⟨wd, 73, none⟩ U) g mk V1 V2 V3 n1 n2 n3 (signs mk n1) (opms mk n2) ls := ⟨(hfG g k.inG).trans k.raw.row, own_frame k.raw.ob fun y hy => hfG y (k.ownG y (Or.inl hy)), own_frame k.raw.oo fun y hy => hfG y (k.ownG y (Or.inr (Or.inl hy))), own_frame k.raw.ol fun y hy => hfG y (k.ownG y (Or.inr (Or.inr hy)))⟩
  have hlist : ∀ v ∈ ls, ListOk (w2.setCell ⟨wd, 73, none⟩ U) (fun b => Gof w (w2.setCell ⟨wd, 73, none⟩ U) hb vb vo vl U b ∧ ¬ ownX V1 V2 V3 b) mk v := fun v hv => (k.lists v hv).frame (fun b e => ⟨hG b e.1, e.2⟩) fun b e => hfG b e.1
  refine ⟨(rw2.set 73 U).congr fun i hi => ?_, own_set (by rw [← Nat.add_assoc]; simpa [ptrs] using ho) rw2 (by decide) 73 U, by rw [List.length_append, k.len]; rfl, fun b e => ?_, fun x hx => ?_, hraw, hlist, hG _ k.inG, fun b e => hG b (k.ownG b e), ?_⟩
  · by_cases e : i = 73
    · subst e; rfl
    · simp only [wcell, if_neg e]
      split
      · rfl
      · split
        · rfl
        · omega
  · rcases hU b e with e1 | e1
    · exact k.lieH b e1
    · exact Or.inr (by omega)
  · rcases List.mem_append.1 hx with hx | hx
    · rcases k.old x hx with ⟨a, b, c, d, h⟩ | h
      · exact Or.inl ⟨a, b, c, d, h.frame hfF⟩
      · exact Or.inr (h.frame hG hfG)
    · rw [List.mem_singleton] at hx
      subst hx
      exact Or.inr (Fam.of_raw hraw (hG _ k.inG) (fun b e => hG b (k.ownG b e)) hlist)
  · refine But.setCell ⟨by omega, (hg.but.os.trans ha.os).trans k.but.os, (hg.but.tape.trans ha.tape).trans k.but.tape, (hg.but.output.trans ha.output).trans k.but.output, fun b hb hx => ((hg.but.block b (by omega) fun e => ?_).trans (ha.block b (by omega))).trans (k.but.block b hb hx)⟩ (Or.inl (Or.inl rfl)) U
    rcases k.lieH b e with e1 | e1
    · exact hx (Or.inr (Or.inr (Or.inr e1)))
    · omega
end
end Go.Proofs.YtgccjefbedpmpaaGreatDoor
namespace Go.Proofs.YtgccjefbedpmpaaGreatDoor
open Go.RowKit
section
variable {w : World} {wd : Nat} {R : Nat → Int} {vP vH : Value} {F : Nat → Prop} {hs : List Nat} {hb : Nat} {m0 mk : Int} {vb vo vl : Value} {nb no nl : Nat} {xb xo xl : List Value}
theorem HoldRaw.mark (hr : HoldRaw w hb m0 vb vo vl nb no nl xb xo xl) (mk : Int) : HoldRaw (w.setCell ⟨hb, 3, none⟩ (.int .i64 mk)) hb mk vb vo vl nb no nl xb xo xl :=
  ⟨(hr.row.set 3 _).congr (fun j hj => by match j with | 0 => rfl | 1 => rfl | 2 => rfl | 3 => rfl), own_set hr.ob hr.row (by decide) _ _, own_set hr.oo hr.row (by decide) _ _, own_set hr.ol hr.row (by decide) _ _⟩
theorem Kst.first (p : Pre w wd R vP vH F hs hb vb vo vl) {w1 : World} {ls : List Value} (hraw : HoldRaw w1 hb mk vb vo vl nb no nl (signs mk nb) (opms mk no) ls)
    (hls : ∀ v ∈ ls, ListOk w1 (fun b => (w.setCell ⟨hb, 3, none⟩ (.int .i64 mk)).heap.size ≤ b ∧ b < w1.heap.size) mk v) (hbut : But (ownX vb vo vl) (w.setCell ⟨hb, 3, none⟩ (.int .i64 mk)) w1) :
    Kst w w1 wd R vP vH F hs hb vb vo vl mk 0 nb no nl vH hs hb vb vo vl ls := by
  have hss : (w.setCell ⟨hb, 3, none⟩ (.int .i64 mk)).heap.size = w.heap.size := by simp [World.setCell]
  have h1s := hbut.size
  rw [hss] at h1s
  have hf : ∀ b, b < w.heap.size → ¬ (b = hb ∨ ownX vb vo vl b) → w1.heap[b]? = w.heap[b]? := fun b h1 h2 => (hbut.block b (by omega) fun e => h2 (Or.inr e)).trans (heap_setCell_other _ _ _ _ fun e => h2 (Or.inl e))
  have hHlt : ∀ b, vH.ownBlock = some b → b < w.heap.size := fun b e => (p.ok.own.lt b e).2
  refine ⟨(hf wd p.ok.row.lt fun e => (p.far wd e).2.2.1 rfl).trans p.ok.row, own_frame p.ok.own fun y hy => hf y (hHlt y hy) fun e => (p.far y e).2.2.2 hy, rfl, fun _ e => Or.inl e, fun x hx => ?_, hraw, fun v hv => ?_, Or.inl rfl, fun _ e => Or.inr (Or.inl e), ?_⟩
  · obtain ⟨a, b, c, d, h⟩ := p.ok.holds x hx
    exact Or.inl ⟨a, b, c, d, h.frame fun y hy => hf y (p.ok.below y hy) fun e => (p.far y e).2.1 hy⟩
  · exact (hls v hv).mono fun b e => ⟨Or.inr (Or.inr ⟨by omega, e.2, fun e1 => by have := hHlt b e1; omega⟩), fun e1 => by have := (p.far b (Or.inr e1)).1; omega⟩
  · exact ⟨h1s, hbut.os.trans (by simp [World.setCell]), hbut.tape.trans rfl, hbut.output.trans (by simp [World.setCell]), fun b hb hx => hf b hb fun e => hx (Or.inr (e.elim Or.inl fun e => Or.inr (Or.inl e)))⟩
end
theorem szA {n k b c : Nat} (h : (n + 3) * b ≤ c) (hk : k < 3) : (n + k + 1) * b ≤ c := Nat.le_trans (Nat.mul_le_mul_right b (by omega)) h
theorem szB {n k b c : Nat} (h : (n + 4) * b ≤ c) (hk : k < 3) : (n + (k + 1) + 1) * b ≤ c := Nat.le_trans (Nat.mul_le_mul_right b (by omega)) h
theorem szC {n : Nat} (h : (n + 1) * 8 ≤ 140737488355328) : n + 1 ≤ maxLen := by unfold maxLen; omega
theorem szD {n : Nat} (h : (n + 4) * 8 ≤ 140737488355328) : (n : Int) + 1 ≤ 9223372036854775807 := by omega
theorem szE {n k c : Nat} (h : n + 3 ≤ c) (hk : k < 3) : n + k + 1 ≤ c := by omega
theorem infoH : (Tryz.prog.info? 159).map (fun i => (i.zero, i.size, i.bytes)) = some (some (.pointer none), 1, 8) := by kernel_rfl
set_option maxRecDepth 100000 in
set_option maxHeartbeats 2000000 in
theorem keep_any {w : World} {wd : Nat} {R : Nat → Int} {vP vH : Value} {F : Nat → Prop} {hs : List Nat} {hb : Nat} {m0 : Int} {vb vo vl : Value} {nb no nl : Nat} {xb xo xl : List Value} (p : Pre w wd R vP vH F hs hb vb vo vl) (hr : HoldRaw w hb m0 vb vo vl nb no nl xb xo xl)
    (s0 : (hs.length + 4) * 8 ≤ 140737488355328) (s1 : nb + 3 ≤ 140737488355328) (s2 : (no + 3) * 40 ≤ 140737488355328) (s3 : (nl + 3) * 24 ≤ 140737488355328) :
    Calls Tryz.prog 83 #[.pointer (some ⟨wd, 0, none⟩), .pointer (some ⟨hb, 0, none⟩)] w fun e w' => e = .returned (.tuple #[]) ∧ ∃ n1 n2 n3 vH' hs' g V1 V2 V3 ls, Kst w w' wd R vP vH F hs hb vb vo vl (hs.length + 1) 4 n1 n2 n3 vH' hs' g V1 V2 V3 ls := by
  obtain ⟨ip, pi, pz0, pz1, pz2⟩ := info_parts infoH
  obtain ⟨aH, cH, rfl, -⟩ := own_viewN p.ok.own
  have c73 : w.cell? ⟨wd, 73, none⟩ = some (.slice aH hs.length cH) := p.ok.row.cell (by omega)
  have h3 : w.cell? ⟨hb, 3, none⟩ = some (.int .i64 m0) := hr.row.cell (by omega)
  have f3 := hr.row.free 3
  go_enter Tryz.func83, Tryz.ntmps83
  go_wp2_with (first
    | (go_at_call 141; refine (marks_any (hr.mark ((hs.length : Int) + 1)) (by omega) (by omega)).mono ?_; rintro e w1 ⟨rfl, ⟨ls, hraw, hls⟩, hbut⟩; have k0 := Kst.first p hraw hls hbut; have k73 : w1.cell? ⟨wd, 73, none⟩ = some (.slice aH hs.length cH) := k0.row.cell (by omega); have hA : Below w1.heap.size w1 (w1.alloc (.cells #[.pointer (some ⟨hb, 0, none⟩)] 159)) := (Below.refl _ _).alloc (Nat.le_refl _) _; clear hraw hls hbut)
    | (at_builtin; refine wpList_append_keep _ rfl (.tmp 21) (.tmp 23) 88 rfl 159 ip (.pointer none) 1 8 Tryz.underlying88 pi pz0 pz1 pz2 rfl (by decide) (.slice aH hs.length cH) hs.length (ptrs hs) rfl (own_below k0.own hA) ⟨w1.heap.size, 0, none⟩ 1 1 [.pointer (some ⟨hb, 0, none⟩)] rfl rfl ?hn (by simp [Value.oneCell']) (by omega) (by unfold maxLen; omega) (by omega) ?_; (case hn => exact World.news_of_block (heap_alloc_new w1 _)); intro v2 w2 ho2 hg2; obtain ⟨a2, c2, rfl, -⟩ := own_viewN ho2; have k1 := k0.push p hA hg2 ho2; have rW := hg2.row (own_below k0.own hA) (k0.row.below hA k0.row.lt) (by decide); have b73 := rW.cell (show 73 < 74 by omega); have fb73 := rW.free 73))
  clear b73 fb73 rW hg2 ho2 k73 hA c73 h3 f3 k0
  go_loopw [4, 5] (fun gv i wr => ∃ k : Nat, k ≤ 3 ∧ i = .int .i64 k ∧ ∃ vH' hs' g V1 V2 V3 ls, gv = .pointer (some ⟨g, 0, none⟩) ∧ Kst w wr wd R vP (.slice aH hs.length cH) F hs hb vb vo vl (hs.length + 1) (k + 1) (nb + k) (no + k) (nl + k) vH' hs' g V1 V2 V3 ls) (fun _ i _ => 3 - (intOf i).toNat)
  case atStart => exact ⟨0, by omega, rfl, _, _, _, _, _, _, _, rfl, k1⟩
  case round =>
    obtain ⟨k, hk, rfl, vH', hs', g, V1, V2, V3, lq, rfl, K⟩ := hrel
    clear k1
    by_cases hlt : k < 3
    · have lk : (k : Int) < 3 := by omega
      have t1 := szE s1 hlt
      have t2 := szA s2 hlt
      have t3 := szA s3 hlt
      have t4 : (0 : Int) ≤ (hs.length : Int) + 1 := Int.le_add_one (Int.natCast_nonneg _)
      have t5 := szD s0
      have t8 := szB s0 hlt
      obtain ⟨N, hN⟩ : ∃ N, hs.length + (k + 1) = N := ⟨_, rfl⟩
      have KO := K.own
      rw [hN] at KO
      obtain ⟨aN, cN, rfl, -⟩ := own_viewN KO
      clear KO
      rw [hN] at t8
      have t7 := szC t8
      go_wp2_with (first
        | (go_at_call 142; refine (longer_any K.raw t4 t5 t1 t2 t3).mono ?_; rintro e w3 ⟨rfl, U1, U2, U3, hr3, m3⟩; have K3 := K.longer p hr3 m3; have k73 : w3.cell? ⟨wd, 73, none⟩ = some (.slice aN N cN) := K3.row.cell (by omega); have hA : Below w3.heap.size w3 (w3.alloc (.cells #[.pointer (some ⟨wr.heap.size, 0, none⟩)] 159)) := (Below.refl _ _).alloc (Nat.le_refl _) _; have O3 := own_below K3.own hA; rw [hN] at O3; have RW3 := K3.row.below hA K3.row.lt; clear hr3 m3)
        | (at_builtin; refine wpList_append_keep _ rfl (.tmp 38) (.tmp 40) 88 rfl 159 ip (.pointer none) 1 8 Tryz.underlying88 pi pz0 pz1 pz2 rfl (by decide) (.slice aN N cN) N (ptrs hs') rfl O3 ⟨w3.heap.size, 0, none⟩ 1 1 [.pointer (some ⟨wr.heap.size, 0, none⟩)] rfl rfl ?hn (by simp [Value.oneCell']) (by decide) t7 t8 ?_; (case hn => exact World.news_of_block (heap_alloc_new w3 _)); intro v2 w4 ho2 hg2; obtain ⟨a2, c2, rfl, -⟩ := own_viewN ho2; have K4 := K3.push p hA (by rw [hN]; exact hg2) (by rw [hN]; exact ho2); have rW := hg2.row O3 RW3 (by decide); have b73 := rW.cell (show 73 < 74 by omega); have fb73 := rW.free 73))
      go_roundw
      case rel => exact ⟨k + 1, hlt, by go_num, _, _, _, _, _, _, _, rfl, K4⟩
      case measure => simp [intOf]; omega
    · obtain rfl : k = 3 := by omega
      go_wp2
      go_end0
      exact ⟨rfl, _, _, _, _, _, _, _, _, _, _, K⟩
end Go.Proofs.YtgccjefbedpmpaaGreatDoor

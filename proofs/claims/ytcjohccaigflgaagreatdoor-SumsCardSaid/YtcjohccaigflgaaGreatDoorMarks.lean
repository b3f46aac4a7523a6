import Derived.Test.YtcjohccaigflgaaGreatDoorRaw
namespace Go.Proofs.YtcjohccaigflgaaGreatDoor
open Go.RowKit
def ownX (vb vo vl : Value) (b : Nat) : Prop := vb.ownBlock = some b ∨ vo.ownBlock = some b ∨ vl.ownBlock = some b
theorem setCell_two {wr : World} {g k hb : Nat} {o : Nat} {x : Value} (hgb : g ≠ hb) (h : wr.cell? ⟨hb, o, none⟩ = some x) (v : Value) : (wr.setCell ⟨g, k, none⟩ v).cell? ⟨hb, o, none⟩ = some x :=
  (World.cell?_of_block (heap_setCell_other _ _ _ _ (fun e => hgb e.symm))).trans h
set_option maxHeartbeats 2000000 in
theorem marks_any {hb : Nat} {mk : Int} {vb vo vl : Value} {nb no nl : Nat} {xb xo xl : List Value} {w : World} (h : HoldRaw w hb mk vb vo vl nb no nl xb xo xl) (hmk : 0 ≤ mk) (hmk2 : mk ≤ 9223372036854775807) :
    Calls Tryz.prog 115 #[.pointer (some ⟨hb, 0, none⟩)] w fun e w' => e = .returned (.tuple #[]) ∧ (∃ ls, HoldRaw w' hb mk vb vo vl nb no nl (signs mk nb) (opms mk no) ls ∧ ∀ v ∈ ls, ListOk w' (fun b => w.heap.size ≤ b ∧ b < w'.heap.size) mk v) ∧ But (ownX vb vo vl) w w' := by
  obtain ⟨ab, cb, rfl, _⟩ := own_viewN h.ob
  obtain ⟨aop, co, rfl, _⟩ := own_viewN h.oo
  obtain ⟨al, cl, rfl, _⟩ := own_viewN h.ol
  have l1 := own_len h.ob
  have l2 := own_len h.oo
  have l3 := own_len h.ol
  have q1 : xb.length = nb := by have := h.ob.1; omega
  have q2 : xo.length = no * 6 := h.oo.1
  have q3 : xl.length = nl := by have := h.ol.1; omega
  generalize hXX : ownX (.slice ab nb cb) (.slice aop no co) (.slice al nl cl) = X
  have HXX : Hid (ownX (.slice ab nb cb) (.slice aop no co) (.slice al nl cl) = X) := hXX
  clear hXX
  go_enter Tryz.func115, Tryz.ntmps115
  go_wp2
  go_loopw [2] (fun i wr => ∃ k : Nat, k ≤ nb ∧ i = .int .i64 k ∧ HoldRaw wr hb mk (.slice ab nb cb) (.slice aop no co) (.slice al nl cl) nb no nl ((signs mk nb).take k ++ xb.drop k) xo xl ∧ But X w wr) (fun i _ => nb - (intOf i).toNat)
  case atStart => exact ⟨0, Nat.zero_le _, rfl, by simpa using h, But.refl _ _⟩
  case round =>
    obtain ⟨k, hk, rfl, hw, hbt⟩ := hrel
    have h0 : wr.cell? ⟨hb, 0, none⟩ = some (.slice ab nb cb) := hw.row.cell (by omega)
    have h3 : wr.cell? ⟨hb, 3, none⟩ = some (.int .i64 mk) := hw.row.cell (by omega)
    by_cases hlt : k < nb
    · obtain ⟨_, _, hv, hc⟩ := own_viewN hw.ob
      cases hv
      obtain ⟨g, rfl, hcg⟩ := hc k hlt
      have hgb : g ≠ hb := row_apart hw.ob hw.row (by decide) rfl
      have hl2 : (signs mk nb).length = nb := by simp [signs]
      obtain ⟨old, ho⟩ : ∃ old, ((signs mk nb).take k ++ xb.drop k)[k]? = some old := ⟨_, List.getElem?_eq_getElem (by simp; omega)⟩
      have ck : wr.cell? ⟨g, k, none⟩ = some old := (hcg k (by omega)).trans ho
      have fk := hw.ob.frozenAt k
      have lk : (k : Int) < (nb : Int) := by omega
      have hs0 := setCell_two (k := k) hgb h0
      have hs3 := setCell_two (k := k) hgb h3
      have hw' := hw.setB k (.int .u8 (sg mk k))
      rw [mix_set hl2 q1 hlt _ (signs_get hlt)] at hw'
      have Hw : Hid (HoldRaw (wr.setCell ⟨g, k, none⟩ (.int .u8 (sg mk k))) hb mk (.slice (some ⟨g, 0, none⟩) nb cb) (.slice aop no co) (.slice al nl cl) nb no nl ((signs mk nb).take (k + 1) ++ xb.drop (k + 1)) xo xl) := hw'
      have hX : X g := by rw [← HXX.out]; exact Or.inl rfl
      clear hc hcg ho hw' hw
      go_wp2
      go_region_held3 (fun w' => w'.cell? ⟨hb, 0, none⟩ = some (.slice (some ⟨g, 0, none⟩) nb cb) ∧ w'.cell? ⟨hb, 3, none⟩ = some (.int .i64 mk)) (go_keep) ((go_at_call 126; refine (sign_any _ _ _).mono ?_; rintro e w' ⟨rfl, rfl⟩))
      go_wp2
      go_roundw
      case rel => exact ⟨k + 1, hlt, by go_num, Hw.out.drew, (hbt.setCell (Or.inl hX) _).drew⟩
      case measure => simp [intOf]; omega
    · obtain rfl : k = nb := by omega
      have hl2 : (signs mk k).length = k := by simp [signs]
      have hw1 : HoldRaw wr hb mk (.slice ab k cb) (.slice aop no co) (.slice al nl cl) k no nl (signs mk k) xo xl := by
        rw [List.take_of_length_le (by omega), List.drop_of_length_le (by omega), List.append_nil] at hw; exact hw
      clear hw
      go_wp2
      go_loopw [3] (fun i wr => ∃ j : Nat, j ≤ no ∧ i = .int .i64 j ∧ HoldRaw wr hb mk (.slice ab k cb) (.slice aop no co) (.slice al nl cl) k no nl (signs mk k) ((opms mk no).take (j * 6) ++ xo.drop (j * 6)) xl ∧ But X w wr) (fun i _ => no - (intOf i).toNat)
      case atStart => exact ⟨0, Nat.zero_le _, rfl, by simpa using hw1, hbt⟩
      case round =>
        clear hw1 hbt
        obtain ⟨j, hj, rfl, hw, hbt⟩ := hrel
        have h1 : wr.cell? ⟨hb, 1, none⟩ = some (.slice aop no co) := hw.row.cell (by omega)
        have h3 : wr.cell? ⟨hb, 3, none⟩ = some (.int .i64 mk) := hw.row.cell (by omega)
        by_cases hlt : j < no
        · obtain ⟨_, _, hv, hc⟩ := own_viewN hw.oo
          cases hv
          obtain ⟨g, rfl, hcg⟩ := hc j hlt
          have hgb : g ≠ hb := row_apart hw.oo hw.row (by decide) rfl
          have hA : (opms mk no).length = no * 6 := by simp [opms]
          have cs : ∀ i, i < 6 → ∃ old, wr.cell? ⟨g, j * 6 + i, none⟩ = some old := fun i hi => ⟨_, (hcg _ (by omega)).trans (List.getElem?_eq_getElem (by simp; omega))⟩
          obtain ⟨y0, ck0⟩ := cs 0 (by omega)
          obtain ⟨y1, ck1⟩ := cs 1 (by omega)
          obtain ⟨y2, ck2⟩ := cs 2 (by omega)
          obtain ⟨y3, ck3⟩ := cs 3 (by omega)
          obtain ⟨y4, ck4⟩ := cs 4 (by omega)
          obtain ⟨y5, ck5⟩ := cs 5 (by omega)
          simp only [Nat.add_zero] at ck0
          have fk := hw.oo.frozenAt
          have lk : (j : Int) < (no : Int) := by omega
          have hw' := HoldRaw.six hlt q2 hw
          have hX : X g := by rw [← HXX.out]; exact Or.inr (Or.inl rfl)
          clear hc hcg cs hw
          go_wp2
          go_region
          go_wp2
          go_roundw
          case rel => exact ⟨j + 1, hlt, by go_num, hw'.drew, ((((((hbt.setCell (Or.inl hX) _).setCell (Or.inl hX) _).setCell (Or.inl hX) _).setCell (Or.inl hX) _).setCell (Or.inl hX) _).setCell (Or.inl hX) _).drew⟩
          case measure => simp [intOf]; omega
        · obtain rfl : j = no := by omega
          have hA : (opms mk j).length = j * 6 := by simp [opms]
          have hw1 : HoldRaw wr hb mk (.slice ab k cb) (.slice aop j co) (.slice al nl cl) k j nl (signs mk k) (opms mk j) xl := by
            rw [List.take_of_length_le (by omega), List.drop_of_length_le (by omega), List.append_nil] at hw; exact hw
          clear hw
          go_wp2
          go_loopw [4] (fun i wr => ∃ m : Nat, m ≤ nl ∧ i = .int .i64 m ∧ ∃ ls : List Value, ls.length = m ∧ HoldRaw wr hb mk (.slice ab k cb) (.slice aop j co) (.slice al nl cl) k j nl (signs mk k) (opms mk j) (ls ++ xl.drop m) ∧ (∀ v ∈ ls, ListOk wr (fun b => w.heap.size ≤ b ∧ b < wr.heap.size) mk v) ∧ But X w wr) (fun i _ => nl - (intOf i).toNat)
          case atStart => exact ⟨0, Nat.zero_le _, rfl, [], rfl, by simpa using hw1, (fun _ h => by cases h), hbt⟩
          case round =>
            clear hw1 hbt
            obtain ⟨m, hm, rfl, ls, hls, hw, hlo, hbt⟩ := hrel
            have h2 : wr.cell? ⟨hb, 2, none⟩ = some (.slice al nl cl) := hw.row.cell (by omega)
            have h3 : wr.cell? ⟨hb, 3, none⟩ = some (.int .i64 mk) := hw.row.cell (by omega)
            by_cases hlt : m < nl
            · obtain ⟨_, _, hv, hc⟩ := own_viewN hw.ol
              cases hv
              obtain ⟨g, rfl, hcg⟩ := hc m hlt
              have hgb : g ≠ hb := row_apart hw.ol hw.row (by decide) rfl
              have hgl : g < wr.heap.size := (hw.ol.lt g rfl).2
              have hbl := hw.row.lt
              obtain ⟨old, ho⟩ : ∃ old, (ls ++ xl.drop m)[m]? = some old := ⟨_, List.getElem?_eq_getElem (by simp; omega)⟩
              have ck : wr.cell? ⟨g, m, none⟩ = some old := (hcg m (by omega)).trans ho
              have fk := hw.ol.frozenAt m
              have fk' : (wr.alloc (.cells (lst mk) 5)).frozen? ⟨g, m, none⟩ = false := (World.frozen?_of_block (Below.heap_alloc _ _ _ hgl)).trans fk
              have ck' : (wr.alloc (.cells (lst mk) 5)).cell? ⟨g, m, none⟩ = some old := (World.cell?_of_block (Below.heap_alloc _ _ _ hgl)).trans ck
              have h2a : (wr.alloc (.cells (lst mk) 5)).cell? ⟨hb, 2, none⟩ = some (.slice (some ⟨g, 0, none⟩) nl cl) := (World.cell?_of_block (Below.heap_alloc _ _ _ hbl)).trans h2
              have h3a : (wr.alloc (.cells (lst mk) 5)).cell? ⟨hb, 3, none⟩ = some (.int .i64 mk) := (World.cell?_of_block (Below.heap_alloc _ _ _ hbl)).trans h3
              have hs2 := setCell_two (k := m) hgb h2a
              have hs3 := setCell_two (k := m) hgb h3a
              have lk : (m : Int) < (nl : Int) := by omega
              have hw' := (hw.setL m (.slice (some ⟨wr.heap.size, 0, none⟩) 3 3))
              have hset : (ls ++ xl.drop m).set m (.slice (some ⟨wr.heap.size, 0, none⟩) 3 3) = (ls ++ [.slice (some ⟨wr.heap.size, 0, none⟩) 3 3]) ++ xl.drop (m + 1) := by
                rw [List.set_append_right _ _ (by omega), hls, Nat.sub_self, List.drop_eq_getElem_cons (show m < xl.length by omega), List.append_assoc]; rfl
              rw [hset] at hw'
              have hlg : ∀ cur, wr.heap[g]? = some (.cells cur 5 (0, 0)) → False := fun cur hcur => by
                obtain ⟨c, hc⟩ := own_type hw.ol (g := g) rfl
                rw [hcur] at hc; cases hc
              have Hlg : Hid (∀ cur, wr.heap[g]? = some (.cells cur 5 (0, 0)) → False) := hlg
              have Hlo : Hid (∀ v ∈ ls, ListOk wr (fun b => w.heap.size ≤ b ∧ b < wr.heap.size) mk v) := hlo
              clear hset hlg hlo
              have hX : X g := by rw [← HXX.out]; exact Or.inr (Or.inr rfl)
              have hws := hbt.size
              clear hc hcg ho hw
              go_wp2
              go_region_held3 (fun w' => w'.cell? ⟨hb, 2, none⟩ = some (.slice (some ⟨g, 0, none⟩) nl cl) ∧ w'.cell? ⟨hb, 3, none⟩ = some (.int .i64 mk)) (go_keep) ((go_at_call 127; refine (listed_any _ _).mono ?_; rintro e w' ⟨rfl, rfl⟩))
              go_wp2
              go_roundw
              case rel => exact ⟨m + 1, hlt, by go_num, _, by simp [hls], (hw'.frame (fun b hb => Below.heap_alloc _ _ _ hb)).drew, lists_rel Hlo.out Hlg.out hws _, ((hbt.setCell (Or.inl hX) _).alloc _).drew⟩
              case measure => simp [intOf]; omega
            · obtain rfl : m = nl := by omega
              go_wp2
              go_end0
              refine ⟨rfl, ⟨ls, ?_, hlo⟩, hbt⟩
              rw [List.drop_of_length_le (by omega), List.append_nil] at hw; exact hw
end Go.Proofs.YtcjohccaigflgaaGreatDoor

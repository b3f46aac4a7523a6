import Derived.Test.YtgccjefbedpmpaaGreatDoorZWords
import Derived.Deep.Slices
import Derived.SizedLaws
namespace Go.Proofs.YtgccjefbedpmpaaGreatDoor
open Go.ChangeShapes Go.WideShapes Go.RowKit Go.Deep
section
variable {H : Type} {enc : TypeId × Value → H} {P : Program} {w : World} {base : Nat} {spare : Nat → Bool} {held : Bool}
theorem weights_mem_all {e : TypeId} : ∀ {ds : List (DataW H)} {d : DataW H}, d ∈ ds → ∀ n ∈ d.weights P e, n ∈ DataW.weightsAll P e ds
  | _ :: _, _, .head _, n, hn => by rw [DataW.weightsAll]; exact List.mem_append_left _ hn
  | _ :: r, _, .tail _ h, n, hn => by rw [DataW.weightsAll]; exact List.mem_append_right _ (weights_mem_all h n hn)
/-- A field of one cell of a struct that was read. -/
theorem field_one {t : TypeId} {fs : Array Field} {fuel : Nat} {cs : List Value} {x : DataW H × List MemPlace} (ht : P.underlying t = some (.struct fs)) (h : DataW.trod enc P w base spare held fuel t cs = some x)
    {i : Nat} {f : Field} (hf : fs[i]? = some f) (h1 : P.cellsOf f.type = 1) {v : Value} (hv : cs[f.offset]? = some v) :
    ∃ y n parts, DataW.trod enc P w base spare held n f.type [v] = some y ∧ x.1 = .agg parts ∧ parts[i]? = some y.1 := by
  obtain ⟨xs, n, rfl, rfl, _, hl, hall⟩ := DataW.trod_struct ht h
  have hx := hall i f hf
  rw [h1] at hx
  have e : (cs.drop f.offset).take 1 = [v] := by
    rw [List.drop_eq_getElem?_toList_append, hv]; rfl
  rw [e] at hx
  have hi : i < xs.length := by rw [hl]; exact (Array.getElem?_eq_some_iff.1 hf).1
  rw [List.getElem?_eq_getElem hi] at hx
  exact ⟨xs[i], n, _, hx, rfl, by simp [hi]⟩
/-- A field that is a struct of its own. -/
theorem field_sub {t : TypeId} {fs : Array Field} {fuel : Nat} {cs : List Value} {x : DataW H × List MemPlace} (ht : P.underlying t = some (.struct fs)) (h : DataW.trod enc P w base spare held fuel t cs = some x)
    {i : Nat} {f : Field} (hf : fs[i]? = some f) :
    ∃ y n, DataW.trod enc P w base spare held n f.type ((cs.drop f.offset).take (P.cellsOf f.type)) = some y := by
  obtain ⟨xs, n, rfl, rfl, _, hl, hall⟩ := DataW.trod_struct ht h
  have hi : i < xs.length := by rw [hl]; exact (Array.getElem?_eq_some_iff.1 hf).1
  exact ⟨xs[i], n, by rw [hall i f hf, List.getElem?_eq_getElem hi]⟩
end
/-- What the walk asks of the cells of a step of a script. -/
def OpIs (f : Nat → Value) : Prop := (∃ k : Int, f 0 = .int .i64 k) ∧ (∃ s : ByteArray, f 3 = .string s ∧ s.size ≤ 140737488351232) ∧ (∃ c : Int, f 14 = .int .u32 c ∧ W32 c) ∧ ∃ a : Int, f 18 = .int .u32 a ∧ W32 a
/-- A script of n steps of 23 cells lies from off on in block g. -/
def ScriptIs (w : World) (g off n : Nat) (f : Nat → Nat → Value) : Prop := ∀ i, i < n → (∀ j, j < 23 → w.cell? ⟨g, off + i * 23 + j, none⟩ = some (f i j)) ∧ OpIs (f i)
section
variable {H : Type} {enc : TypeId × Value → H} {w : World} {base : Nat} {spare : Nat → Bool} {held : Bool}
theorem wf32 {n : Int} (h : (Lit.int .u32 n).wf = true) : W32 n := by
  simp only [Lit.wf, decide_eq_true_eq, Bool.and_eq_true] at h
  have e1 : IntKind.u32.min = 0 := rfl
  have e2 : IntKind.u32.max = 4294967295 := rfl
  rw [e1, e2] at h
  exact ⟨by omega, by omega⟩
theorem add_none (b o n : Nat) : (⟨b, o, none⟩ : Addr).add n = ⟨b, o + n, none⟩ := by
  unfold Addr.add
  split
  · rename_i h; subst h; rfl
  · rfl
theorem op_open {fuel : Nat} {cs : List Value} {x : DataW H × List MemPlace} (h : DataW.trod enc Tryz.prog w base spare held fuel 85 cs = some x) (hl : cs.length = 23) (hw : ∀ n ∈ x.1.weights Tryz.prog 85, n ≤ reachBytes) :
    OpIs fun j => cs[j]?.getD .nilFunc := by
  have hg : ∀ j, j < 23 → cs[j]? = some (cs[j]?.getD .nilFunc) := fun j hj => by rw [List.getElem?_eq_getElem (by omega)]; rfl
  refine ⟨?_, ?_, ?_, ?_⟩
  · obtain ⟨y, n, parts, h1, _, _⟩ := field_one (i := 0) Tryz.underlying85 h rfl (by kernel_rfl) (hg 0 (by decide))
    obtain ⟨k, e, _, _⟩ := DataW.trod_int Tryz.underlying3 h1
    exact ⟨k, (List.cons.inj e).1⟩
  · obtain ⟨y, n, parts, h1, h2, h3⟩ := field_one (i := 3) Tryz.underlying85 h rfl (by kernel_rfl) (hg 3 (by decide))
    obtain ⟨s, e, h4, _⟩ := DataW.trod_string Tryz.underlying9 h1
    refine ⟨s, (List.cons.inj e).1, ?_⟩
    have hm : s.data.toList.length ∈ x.1.weights Tryz.prog 85 := by
      rw [h2]
      unfold DataW.weights
      rw [Tryz.underlying85]
      refine DataW.weights_mem_each (j := 3) (t := 9) rfl h3 _ ?_
      rw [h4]; simp [DataW.weights]
    have := hw _ hm
    simpa [reachBytes] using this
  · obtain ⟨y, n, h1⟩ := field_sub (i := 5) Tryz.underlying85 h rfl
    obtain ⟨z, m, parts, h2, _, _⟩ := field_one (i := 2) (v := cs[14]?.getD .nilFunc) Tryz.underlying43 h1 rfl (by kernel_rfl) (by
      show ((cs.drop 12).take (Tryz.prog.cellsOf 43))[2]? = _
      rw [show Tryz.prog.cellsOf 43 = 6 from by kernel_rfl, List.getElem?_take_of_lt (by decide), List.getElem?_drop]
      exact hg 14 (by decide))
    obtain ⟨k, e, _, e3⟩ := DataW.trod_int Tryz.underlying39 h2
    exact ⟨k, (List.cons.inj e).1, wf32 e3⟩
  · obtain ⟨y, n, parts, h1, _, _⟩ := field_one (i := 6) Tryz.underlying85 h rfl (by kernel_rfl) (hg 18 (by decide))
    obtain ⟨k, e, _, e3⟩ := DataW.trod_int Tryz.underlying39 h1
    exact ⟨k, (List.cons.inj e).1, wf32 e3⟩
set_option maxRecDepth 100000 in
theorem script_open {v : Value} {d : DataW H} {p : List MemPlace} (h : DataW.Trod enc Tryz.prog w base (fun _ => true) held 22 v d p) (hs : ∃ a l c, v = .slice a l c) (hw : ∀ n ∈ d.weights Tryz.prog 22, n ≤ reachBytes) :
    (∃ a cap, v = .slice a 0 cap) ∨ ∃ g off len cap f, v = .slice (some ⟨g, off, none⟩) len cap ∧ len * 184 ≤ 140737488351232 ∧ ScriptIs w g off len f := by
  obtain ⟨fuel, h⟩ := h
  obtain ⟨va, vl, vc, rfl⟩ := hs
  rcases open_slice Tryz.underlying22 h with ⟨h0, _⟩ | ⟨a, len, cap, m, n, D, Pl, h0, hb, hl, hm, hmm, hx, hall⟩
  · exact Or.inl ⟨none, 0, (List.cons.inj h0).1⟩
  · rw [show Tryz.prog.cellsOf 85 = 23 from by kernel_rfl] at hall
    simp only [if_true] at hmm
    subst hmm
    have e0 := (List.cons.inj h0).1
    simp only [Prod.mk.injEq] at hx
    obtain ⟨rfl, rfl⟩ := hx
    have hwt : ∀ n, n ∈ (m * 184) :: (DataW.weightsAll Tryz.prog 85 ((List.range len).map D) ++ DataW.weightsAll Tryz.prog 85 ((List.range (m - len)).map fun j => D (len + j))) → n ≤ reachBytes := fun n hn => hw n (by
      unfold DataW.weights
      rw [Tryz.underlying22]
      show n ∈ (_ * Tryz.prog.bytesOf 85) :: _
      rw [show Tryz.prog.bytesOf 85 = 184 from by kernel_rfl, List.length_map, List.length_map, List.length_range, List.length_range, show len + (m - len) = m by omega]
      exact hn)
    have h1 := hwt _ (.head _)
    by_cases hz : len = 0
    · subst hz
      exact Or.inl ⟨_, _, e0⟩
    · obtain ⟨ab, ao, sp⟩ := a
      have hlen : len * 184 ≤ 140737488351232 := by simp only [reachBytes] at h1; omega
      have hc : ∀ i, i < len → ∃ cs' : List Value, cs'.length = 23 ∧ (∀ j, j < 23 → w.cell? (((⟨ab, ao, sp⟩ : Addr).add (i * 23)).add j) = cs'[j]?) ∧ OpIs fun j => cs'[j]?.getD .nilFunc := fun i hi => by
        obtain ⟨cs', h2, h3⟩ := hall i (by omega)
        obtain ⟨_, h4, h5⟩ := World.cells?_some h2
        exact ⟨cs', h4, fun j hj => h5 j hj, op_open h3 h4 fun n hn => hwt n (.tail _ (List.mem_append_left _ (weights_mem_all (List.mem_map_of_mem (List.mem_range.2 hi)) n hn)))⟩
      obtain ⟨cs0, h0l, h00, _⟩ := hc 0 (by omega)
      have hsp : sp = none := by
        have e := h00 0 (by decide)
        rw [List.getElem?_eq_getElem (by omega)] at e
        simpa [Addr.add] using World.cell?_spot e
      subst hsp
      refine Or.inr ⟨ab, ao, len, m, fun i j => (w.cell? ⟨ab, ao + i * 23 + j, none⟩).getD .nilFunc, e0, hlen, fun i hi => ?_⟩
      obtain ⟨cs', h4, h5', h6⟩ := hc i hi
      have h5 : ∀ j, j < 23 → w.cell? ⟨ab, ao + i * 23 + j, none⟩ = cs'[j]? := fun j hj => by
        rw [← h5' j hj, add_none, add_none]
      refine ⟨fun j hj => ?_, ?_⟩
      · dsimp only
        rw [h5 j hj, List.getElem?_eq_getElem (by omega)]; rfl
      · obtain ⟨a0, a3, a14, a18⟩ := h6
        refine ⟨?_, ?_, ?_, ?_⟩
        · dsimp only; rw [h5 0 (by decide)]; exact a0
        · dsimp only; rw [h5 3 (by decide)]; exact a3
        · dsimp only; rw [h5 14 (by decide)]; exact a14
        · dsimp only; rw [h5 18 (by decide)]; exact a18
end
end Go.Proofs.YtgccjefbedpmpaaGreatDoor

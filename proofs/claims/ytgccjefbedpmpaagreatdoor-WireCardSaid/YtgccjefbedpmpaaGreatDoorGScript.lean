import Derived.Test.YtgccjefbedpmpaaGreatDoorZWords
import Derived.Deep.Slices
import Derived.SizedLaws
import Derived.Test.YtgccjefbedpmpaaGreatDoorGWPack
import Derived.Laws.IdiomArrays
namespace Go.Proofs.YtgccjefbedpmpaaGreatDoor
open Go.ChangeShapes Go.WideShapes Go.RowKit Go.Deep
section
variable {H : Type} {enc : TypeId × Value → H} {P : Program} {w : World} {base : Nat} {spare : Nat → Bool} {held : Bool}
theorem weights_mem_all {e : TypeId} : ∀ {ds : List (DataW H)} {d : DataW H}, d ∈ ds → ∀ n ∈ d.weights P e, n ∈ DataW.weightsAll P e ds
  | _ :: _, _, .head _, n, hn => by rw [DataW.weightsAll]; exact List.mem_append_left _ hn
  | _ :: r, _, .tail _ h, n, hn => by rw [DataW.weightsAll]; exact List.mem_append_right _ (weights_mem_all h n hn)
/-- A field of one cell of a struct that was read. -/
theorem field_one {t : TypeId} {fs : Array Field} {fuel : Nat} {cs : List Value} {x : DataW H × List MemPlace} (ht : P.underlying t = some (.struct fs)) (h : DataW.trod enc P w base spare held fuel t cs = some x)
    {i : Nat} {f : Field} (hf : fs[i]? = some f) (h1 : P.cellsOf f.type = 1) {v : Value} (hv : cs[f.offset]? = some v) :
    ∃ y n parts, DataW.trod enc P w base spare held n f.type [v] = some y ∧ x.1 = .agg parts ∧ parts[i]? = some y.1 := by
  obtain ⟨xs, n, rfl, rfl, _, hl, hall⟩ := DataW.trod_struct ht h
  have hx := hall i f hf
  rw [h1] at hx
  have e : (cs.drop f.offset).take 1 = [v] := by
    rw [List.drop_eq_getElem?_toList_append, hv]; rfl
  rw [e] at hx
  have hi : i < xs.length := by rw [hl]; exact (Array.getElem?_eq_some_iff.1 hf).1
  rw [List.getElem?_eq_getElem hi] at hx
  exact ⟨xs[i], n, _, hx, rfl, by simp [hi]⟩
/-- A field that is a struct of its own. -/
theorem field_sub {t : TypeId} {fs : Array Field} {fuel : Nat} {cs : List Value} {x : DataW H × List MemPlace} (ht : P.underlying t = some (.struct fs)) (h : DataW.trod enc P w base spare held fuel t cs = some x)
    {i : Nat} {f : Field} (hf : fs[i]? = some f) :
    ∃ y n, DataW.trod enc P w base spare held n f.type ((cs.drop f.offset).take (P.cellsOf f.type)) = some y := by
  obtain ⟨xs, n, rfl, rfl, _, hl, hall⟩ := DataW.trod_struct ht h
  have hi : i < xs.length := by rw [hl]; exact (Array.getElem?_eq_some_iff.1 hf).1
  exact ⟨xs[i], n, by rw [hall i f hf, List.getElem?_eq_getElem hi]⟩
end
/-- What the walk asks of the cells of a step of a script. -/
def OpIs (f : Nat → Value) : Prop := (∃ k : Int, f 0 = .int .i64 k) ∧ (∃ s : ByteArray, f 3 = .string s ∧ s.size ≤ 140737488351232) ∧ (∃ c : Int, f 14 = .int .u32 c ∧ W32 c) ∧ ∃ a : Int, f 18 = .int .u32 a ∧ W32 a
/-- A script of n steps of 23 cells lies from off on in block g. -/
def ScriptIs (w : World) (g off n : Nat) (f : Nat → Nat → Value) : Prop := ∀ i, i < n → (∀ j, j < 23 → w.cell? ⟨g, off + i * 23 + j, none⟩ = some (f i j)) ∧ OpIs (f i)
section
variable {H : Type} {enc : TypeId × Value → H} {w : World} {base : Nat} {spare : Nat → Bool} {held : Bool}
theorem wf32 {n : Int} (h : (Lit.int .u32 n).wf = true) : W32 n := by
  simp only [Lit.wf, decide_eq_true_eq, Bool.and_eq_true] at h
  have e1 : IntKind.u32.min = 0 := rfl
  have e2 : IntKind.u32.max = 4294967295 := rfl
  rw [e1, e2] at h
  exact ⟨by omega, by omega⟩
theorem add_none (b o n : Nat) : (⟨b, o, none⟩ : Addr).add n = ⟨b, o + n, none⟩ := by
  unfold Addr.add
  split
  · rename_i h; subst h; rfl
  · rfl
theorem op_open {fuel : Nat} {cs : List Value} {x : DataW H × List MemPlace} (h : DataW.trod enc Tryz.prog w base spare held fuel 85 cs = some x) (hl : cs.length = 23) (hw : ∀ n ∈ x.1.weights Tryz.prog 85, n ≤ reachBytes) :
    OpIs fun j => cs[j]?.getD .nilFunc := by
  have hg : ∀ j, j < 23 → cs[j]? = some (cs[j]?.getD .nilFunc) := fun j hj => by rw [List.getElem?_eq_getElem (by omega)]; rfl
  refine ⟨?_, ?_, ?_, ?_⟩
  · obtain ⟨y, n, parts, h1, _, _⟩ := field_one (i := 0) Tryz.underlying85 h rfl (by kernel_rfl) (hg 0 (by decide))
    obtain ⟨k, e, _, _⟩ := DataW.trod_int Tryz.underlying3 h1
    exact ⟨k, (List.cons.inj e).1⟩
  · obtain ⟨y, n, parts, h1, h2, h3⟩ := field_one (i := 3) Tryz.underlying85 h rfl (by kernel_rfl) (hg 3 (by decide))
    obtain ⟨s, e, h4, _⟩ := DataW.trod_string Tryz.underlying9 h1
    refine ⟨s, (List.cons.inj e).1, ?_⟩
    have hm : s.data.toList.length ∈ x.1.weights Tryz.prog 85 := by
      rw [h2]
      unfold DataW.weights
      rw [Tryz.underlying85]
      refine DataW.weights_mem_each (j := 3) (t := 9) rfl h3 _ ?_
      rw [h4]; simp [DataW.weights]
    have := hw _ hm
    simpa [reachBytes] using this
  · obtain ⟨y, n, h1⟩ := field_sub (i := 5) Tryz.underlying85 h rfl
    obtain ⟨z, m, parts, h2, _, _⟩ := field_one (i := 2) (v := cs[14]?.getD .nilFunc) Tryz.underlying43 h1 rfl (by kernel_rfl) (by
      show ((cs.drop 12).take (Tryz.prog.cellsOf 43))[2]? = _
      rw [show Tryz.prog.cellsOf 43 = 6 from by kernel_rfl, List.getElem?_take_of_lt (by decide), List.getElem?_drop]
      exact hg 14 (by decide))
    obtain ⟨k, e, _, e3⟩ := DataW.trod_int Tryz.underlying39 h2
    exact ⟨k, (List.cons.inj e).1, wf32 e3⟩
  · obtain ⟨y, n, parts, h1, _, _⟩ := field_one (i := 6) Tryz.underlying85 h rfl (by kernel_rfl) (hg 18 (by decide))
    obtain ⟨k, e, _, e3⟩ := DataW.trod_int Tryz.underlying39 h1
    exact ⟨k, (List.cons.inj e).1, wf32 e3⟩
set_option maxRecDepth 100000 in
theorem script_open {v : Value} {d : DataW H} {p : List MemPlace} (h : DataW.Trod enc Tryz.prog w base (fun _ => true) held 22 v d p) (hs : ∃ a l c, v = .slice a l c) (hw : ∀ n ∈ d.weights Tryz.prog 22, n ≤ reachBytes) :
    (∃ a cap, v = .slice a 0 cap) ∨ ∃ g off len cap f, v = .slice (some ⟨g, off, none⟩) len cap ∧ len * 184 ≤ 140737488351232 ∧ ScriptIs w g off len f := by
  obtain ⟨fuel, h⟩ := h
  obtain ⟨va, vl, vc, rfl⟩ := hs
  rcases open_slice Tryz.underlying22 h with ⟨h0, _⟩ | ⟨a, len, cap, m, n, D, Pl, h0, hb, hl, hm, hmm, hx, hall⟩
  · exact Or.inl ⟨none, 0, (List.cons.inj h0).1⟩
  · rw [show Tryz.prog.cellsOf 85 = 23 from by kernel_rfl] at hall
    simp only [if_true] at hmm
    subst hmm
    have e0 := (List.cons.inj h0).1
    simp only [Prod.mk.injEq] at hx
    obtain ⟨rfl, rfl⟩ := hx
    have hwt : ∀ n, n ∈ (m * 184) :: (DataW.weightsAll Tryz.prog 85 ((List.range len).map D) ++ DataW.weightsAll Tryz.prog 85 ((List.range (m - len)).map fun j => D (len + j))) → n ≤ reachBytes := fun n hn => hw n (by
      unfold DataW.weights
      rw [Tryz.underlying22]
      show n ∈ (_ * Tryz.prog.bytesOf 85) :: _
      rw [show Tryz.prog.bytesOf 85 = 184 from by kernel_rfl, List.length_map, List.length_map, List.length_range, List.length_range, show len + (m - len) = m by omega]
      exact hn)
    have h1 := hwt _ (.head _)
    by_cases hz : len = 0
    · subst hz
      exact Or.inl ⟨_, _, e0⟩
    · obtain ⟨ab, ao, sp⟩ := a
      have hlen : len * 184 ≤ 140737488351232 := by simp only [reachBytes] at h1; omega
      have hc : ∀ i, i < len → ∃ cs' : List Value, cs'.length = 23 ∧ (∀ j, j < 23 → w.cell? (((⟨ab, ao, sp⟩ : Addr).add (i * 23)).add j) = cs'[j]?) ∧ OpIs fun j => cs'[j]?.getD .nilFunc := fun i hi => by
        obtain ⟨cs', h2, h3⟩ := hall i (by omega)
        obtain ⟨_, h4, h5⟩ := World.cells?_some h2
        exact ⟨cs', h4, fun j hj => h5 j hj, op_open h3 h4 fun n hn => hwt n (.tail _ (List.mem_append_left _ (weights_mem_all (List.mem_map_of_mem (List.mem_range.2 hi)) n hn)))⟩
      obtain ⟨cs0, h0l, h00, _⟩ := hc 0 (by omega)
      have hsp : sp = none := by
        have e := h00 0 (by decide)
        rw [List.getElem?_eq_getElem (by omega)] at e
        simpa [Addr.add] using World.cell?_spot e
      subst hsp
      refine Or.inr ⟨ab, ao, len, m, fun i j => (w.cell? ⟨ab, ao + i * 23 + j, none⟩).getD .nilFunc, e0, hlen, fun i hi => ?_⟩
      obtain ⟨cs', h4, h5', h6⟩ := hc i hi
      have h5 : ∀ j, j < 23 → w.cell? ⟨ab, ao + i * 23 + j, none⟩ = cs'[j]? := fun j hj => by
        rw [← h5' j hj, add_none, add_none]
      refine ⟨fun j hj => ?_, ?_⟩
      · dsimp only
        rw [h5 j hj, List.getElem?_eq_getElem (by omega)]; rfl
      · obtain ⟨a0, a3, a14, a18⟩ := h6
        refine ⟨?_, ?_, ?_, ?_⟩
        · dsimp only; rw [h5 0 (by decide)]; exact a0
        · dsimp only; rw [h5 3 (by decide)]; exact a3
        · dsimp only; rw [h5 14 (by decide)]; exact a14
        · dsimp only; rw [h5 18 (by decide)]; exact a18
end
end Go.Proofs.YtgccjefbedpmpaaGreatDoor
namespace Go.Proofs.YtgccjefbedpmpaaGreatDoor
open Go.ChangeShapes Go.WideShapes Go.RowKit Go.Deep
/-- The frame of a step of a script: its numbers are of their types, its operations lie there. -/
def OpF (w : World) (f : Nat → Value) : Prop := ∃ (F : Frm) (a : Option Addr) (cap : Nat), (f 4 = .int .i64 F.kd ∧ f 5 = .int .u32 F.ss ∧ f 6 = .int .u64 F.lo ∧ f 7 = .int .u64 F.hi ∧ f 8 = .int .u8 F.d0 ∧ f 9 = .int .u8 F.d1 ∧ f 10 = .int .u8 F.d2 ∧ f 11 = .slice a F.ops.length cap) ∧ FrmT F ∧ OpsIs w a F.ops ∧ F.ops.length * 40 ≤ 140737488351232
section
variable {H : Type} {enc : TypeId × Value → H} {w : World} {base : Nat} {spare : Nat → Bool} {held : Bool}
theorem field_sub2 {P : Program} {t : TypeId} {fs : Array Field} {fuel : Nat} {cs : List Value} {x : DataW H × List MemPlace} (ht : P.underlying t = some (.struct fs)) (h : DataW.trod enc P w base spare held fuel t cs = some x)
    {i : Nat} {f : Field} (hf : fs[i]? = some f) {c : Nat} (hc : P.cellsOf f.type = c) :
    ∃ y n parts, DataW.trod enc P w base spare held n f.type ((cs.drop f.offset).take c) = some y ∧ x.1 = .agg parts ∧ parts[i]? = some y.1 := by
  obtain ⟨xs, n, rfl, rfl, _, hl, hall⟩ := DataW.trod_struct ht h
  have hi : i < xs.length := by rw [hl]; exact (Array.getElem?_eq_some_iff.1 hf).1
  exact ⟨xs[i], n, _, by rw [← hc, hall i f hf, List.getElem?_eq_getElem hi], rfl, by simp [hi]⟩
theorem wfk {k : IntKind} {n : Int} (h : (Lit.int k n).wf = true) : k.min ≤ n ∧ n ≤ k.max := by
  simpa only [Lit.wf, decide_eq_true_eq, Bool.and_eq_true] using h
theorem kb64 {n : Int} (h : IntKind.i64.min ≤ n ∧ n ≤ IntKind.i64.max) : -9223372036854775808 ≤ n ∧ n ≤ 9223372036854775807 := h
theorem kb32 {n : Int} (h : IntKind.u32.min ≤ n ∧ n ≤ IntKind.u32.max) : 0 ≤ n ∧ n < 4294967296 := by
  have h' : (0 : Int) ≤ n ∧ n ≤ 4294967295 := h
  omega
theorem kbu64 {n : Int} (h : IntKind.u64.min ≤ n ∧ n ≤ IntKind.u64.max) : 0 ≤ n ∧ n < 18446744073709551616 := by
  have h' : (0 : Int) ≤ n ∧ n ≤ 18446744073709551615 := h
  omega
theorem kbu8 {n : Int} (h : IntKind.u8.min ≤ n ∧ n ≤ IntKind.u8.max) : 0 ≤ n ∧ n < 256 := by
  have h' : (0 : Int) ≤ n ∧ n ≤ 255 := h
  omega
theorem kbi32 {n : Int} (h : IntKind.i32.min ≤ n ∧ n ≤ IntKind.i32.max) : -2147483648 ≤ n ∧ n ≤ 2147483647 := h
/-- A field that is a number. -/
theorem field_int {P : Program} {t : TypeId} {fs : Array Field} {fuel : Nat} {cs : List Value} {x : DataW H × List MemPlace} (ht : P.underlying t = some (.struct fs)) (h : DataW.trod enc P w base spare held fuel t cs = some x)
    {i : Nat} {f : Field} (hf : fs[i]? = some f) (h1 : P.cellsOf f.type = 1) {k : IntKind} (hk : P.underlying f.type = some (.int k)) (hv : f.offset < cs.length) : ∃ n : Int, cs[f.offset]? = some (.int k n) ∧ k.min ≤ n ∧ n ≤ k.max := by
  obtain ⟨y, m, parts, h2, _, _⟩ := field_one (v := cs[f.offset]) ht h hf h1 (List.getElem?_eq_getElem hv)
  obtain ⟨n, e, _, e3⟩ := DataW.trod_int hk h2
  exact ⟨n, by rw [List.getElem?_eq_getElem hv, (List.cons.inj e).1], wfk e3⟩
theorem aop_open {fuel : Nat} {cs : List Value} {x : DataW H × List MemPlace} (h : DataW.trod enc Tryz.prog w base spare held fuel 43 cs = some x) (hl : cs.length = 6) : ∃ o : Opn, OpT o ∧ ∀ j, j < 6 → cs[j]? = some (opV o j) := by
  obtain ⟨n0, e0, b0⟩ := field_int (i := 0) Tryz.underlying43 h rfl (by kernel_rfl) (k := .i64) (by kernel_rfl) (by rw [hl]; decide)
  obtain ⟨n1, e1, b1⟩ := field_int (i := 1) Tryz.underlying43 h rfl (by kernel_rfl) (k := .u32) (by kernel_rfl) (by rw [hl]; decide)
  obtain ⟨n2, e2, b2⟩ := field_int (i := 2) Tryz.underlying43 h rfl (by kernel_rfl) (k := .u32) (by kernel_rfl) (by rw [hl]; decide)
  obtain ⟨n3, e3, b3⟩ := field_int (i := 3) Tryz.underlying43 h rfl (by kernel_rfl) (k := .u32) (by kernel_rfl) (by rw [hl]; decide)
  obtain ⟨n4, e4, b4⟩ := field_int (i := 4) Tryz.underlying43 h rfl (by kernel_rfl) (k := .u64) (by kernel_rfl) (by rw [hl]; decide)
  obtain ⟨n5, e5, b5⟩ := field_int (i := 5) Tryz.underlying43 h rfl (by kernel_rfl) (k := .i32) (by kernel_rfl) (by rw [hl]; decide)
  refine ⟨⟨n0, n1, n2, n3, n4, n5⟩, ⟨kb64 b0, kb32 b1, kb32 b2, kb32 b3, kbu64 b4, kbi32 b5⟩, fun j hj => ?_⟩
  · match j, hj with
    | 0, _ => exact e0
    | 1, _ => exact e1
    | 2, _ => exact e2
    | 3, _ => exact e3
    | 4, _ => exact e4
    | 5, _ => exact e5
/-- A frame that was read. -/
theorem frame_open {fuel : Nat} {cs : List Value} {x : DataW H × List MemPlace} (h : DataW.trod enc Tryz.prog w base (fun _ => true) held fuel 58 cs = some x) (hl : cs.length = 8) (hw : ∀ n ∈ x.1.weights Tryz.prog 58, n ≤ reachBytes) :
    ∃ (F : Frm) (a : Option Addr) (cap : Nat), (cs[0]? = some (.int .i64 F.kd) ∧ cs[1]? = some (.int .u32 F.ss) ∧ cs[2]? = some (.int .u64 F.lo) ∧ cs[3]? = some (.int .u64 F.hi) ∧ cs[4]? = some (.int .u8 F.d0) ∧ cs[5]? = some (.int .u8 F.d1) ∧ cs[6]? = some (.int .u8 F.d2) ∧ cs[7]? = some (.slice a F.ops.length cap)) ∧ FrmT F ∧ OpsIs w a F.ops ∧ F.ops.length * 40 ≤ 140737488351232 := by
  obtain ⟨n0, e0, b0⟩ := field_int (i := 0) Tryz.underlying58 h rfl (by kernel_rfl) (k := .i64) (by kernel_rfl) (by rw [hl]; decide)
  obtain ⟨n1, e1, b1⟩ := field_int (i := 1) Tryz.underlying58 h rfl (by kernel_rfl) (k := .u32) (by kernel_rfl) (by rw [hl]; decide)
  obtain ⟨n2, e2, b2⟩ := field_int (i := 2) Tryz.underlying58 h rfl (by kernel_rfl) (k := .u64) (by kernel_rfl) (by rw [hl]; decide)
  obtain ⟨n3, e3, b3⟩ := field_int (i := 3) Tryz.underlying58 h rfl (by kernel_rfl) (k := .u64) (by kernel_rfl) (by rw [hl]; decide)
  match cs, hl with
  | [c0, c1, c2, c3, c4, c5, c6, c7], _ =>
    obtain ⟨y, n, parts, h4, _, _⟩ := field_sub2 (i := 4) Tryz.underlying58 h rfl (c := 3) (by kernel_rfl)
    have h4' : DataW.trod enc Tryz.prog w base (fun _ => true) held n 50 [c4, c5, c6] = some y := h4
    obtain ⟨y0, y1, y2, m, _, q0, q1, q2⟩ := trod_array3 Tryz.underlying50 (by kernel_rfl) h4'
    obtain ⟨d0, f0, _, g0⟩ := DataW.trod_int Tryz.underlying5 q0
    obtain ⟨d1, f1, _, g1⟩ := DataW.trod_int Tryz.underlying5 q1
    obtain ⟨d2, f2, _, g2⟩ := DataW.trod_int Tryz.underlying5 q2
    have hd : Byt [d0, d1, d2] := Byt.cons (kbu8 (wfk g0)) (Byt.cons (kbu8 (wfk g1)) (Byt.cons (kbu8 (wfk g2)) Byt.nil))
    obtain ⟨z, n', parts', h5, hx, hp⟩ := field_sub2 (i := 5) Tryz.underlying58 h rfl (c := 1) (by kernel_rfl)
    have h5' : DataW.trod enc Tryz.prog w base (fun _ => true) held n' 32 [c7] = some z := h5
    have e4 := (List.cons.inj f0).1
    have e5 := (List.cons.inj f1).1
    have e6 := (List.cons.inj f2).1
    subst e4 e5 e6
    have key : ∃ (os : List Opn) (a : Option Addr) (cap : Nat), c7 = .slice a os.length cap ∧ (∀ o ∈ os, OpT o) ∧ OpsIs w a os ∧ os.length * 40 ≤ 140737488351232 := by
      rcases open_slice Tryz.underlying32 h5' with ⟨h0, _⟩ | ⟨a, len, cap, m', n'', D, Pl, h0, hb, hle, hm, hmm, hz, hall⟩
      · exact ⟨[], none, 0, (List.cons.inj h0).1, (fun _ h => absurd h List.not_mem_nil), Or.inl rfl, Nat.zero_le _⟩
      · rw [show Tryz.prog.cellsOf 43 = 6 from by kernel_rfl] at hall
        simp only [if_true] at hmm
        subst hmm
        have hwz : m' * 40 ≤ reachBytes := by
          refine hw _ ?_
          rw [hx]
          unfold DataW.weights
          rw [Tryz.underlying58]
          refine DataW.weights_mem_each (j := 5) (t := 32) rfl hp _ ?_
          rw [hz]
          unfold DataW.weights
          rw [Tryz.underlying32]
          show _ ∈ (_ * Tryz.prog.bytesOf 43) :: _
          rw [show Tryz.prog.bytesOf 43 = 40 from by kernel_rfl, List.length_map, List.length_map, List.length_range, List.length_range, show len + (m' - len) = m' by omega]
          exact .head _
        have hc : ∀ i, i < len → ∃ o : Opn, OpT o ∧ ∀ j, j < 6 → w.cell? ((a.add (i * 6)).add j) = some (opV o j) := fun i hi => by
          obtain ⟨cs', h2, h3⟩ := hall i (by omega)
          obtain ⟨_, h6, h7⟩ := World.cells?_some h2
          obtain ⟨o, ho, hj⟩ := aop_open h3 h6
          exact ⟨o, ho, fun j hjl => (h7 j hjl).trans (hj j hjl)⟩
        by_cases h00 : len = 0
        · subst h00
          exact ⟨[], _, _, (List.cons.inj h0).1, (fun _ h => absurd h List.not_mem_nil), Or.inl rfl, Nat.zero_le _⟩
        · obtain ⟨ab, ao, sp⟩ := a
          have hsp : sp = none := by
            obtain ⟨o, _, e⟩ := hc 0 (by omega)
            have e := e 0 (by decide)
            simpa [Addr.add] using World.cell?_spot e
          subst hsp
          let g : Nat → Opn := fun i => if hi : i < len then (hc i hi).choose else ⟨0, 0, 0, 0, 0, 0⟩
          have hg : ∀ i, i < len → OpT (g i) ∧ ∀ j, j < 6 → w.cell? ⟨ab, ao + i * 6 + j, none⟩ = some (opV (g i) j) := fun i hi => by
            have hs := (hc i hi).choose_spec
            have eg : g i = (hc i hi).choose := dif_pos hi
            rw [eg]
            refine ⟨hs.1, fun j hj => ?_⟩
            have q := hs.2 j hj
            have q2 : (((⟨ab, ao, none⟩ : Addr).add (i * 6)).add j) = ⟨ab, ao + i * 6 + j, none⟩ := by rw [add_none, add_none]
            exact q2 ▸ q
          refine ⟨(List.range len).map g, some ⟨ab, ao, none⟩, m', ?_, ?_, Or.inr ⟨ab, ao, rfl, fun i hi j hj => ?_⟩, ?_⟩
          · rw [List.length_map, List.length_range]; exact (List.cons.inj h0).1
          · intro o ho
            obtain ⟨i, hi, rfl⟩ := List.mem_map.1 ho
            exact (hg i (List.mem_range.1 hi)).1
          · rw [List.length_map, List.length_range] at hi
            rw [List.getElem_map, List.getElem_range]
            exact (hg i hi).2 j hj
          · rw [List.length_map, List.length_range]
            simp only [reachBytes] at hwz
            omega
    obtain ⟨os, a, cap, rfl, ho, hO, hn⟩ := key
    exact ⟨⟨n0, n1, n2, n3, _, _, _, os⟩, a, cap, ⟨e0, e1, e2, e3, rfl, rfl, rfl, rfl⟩, ⟨kb64 b0, kb32 b1, kbu64 b2, kbu64 b3, hd, ho⟩, hO, hn⟩
theorem op_openF {fuel : Nat} {cs : List Value} {x : DataW H × List MemPlace} (h : DataW.trod enc Tryz.prog w base (fun _ => true) held fuel 85 cs = some x) (hl : cs.length = 23) (hw : ∀ n ∈ x.1.weights Tryz.prog 85, n ≤ reachBytes) :
    OpF w fun j => cs[j]?.getD .nilFunc := by
  obtain ⟨y, n, parts, h4, hx, hp⟩ := field_sub2 (i := 4) Tryz.underlying85 h rfl (c := 8) (by kernel_rfl)
  have h4' : DataW.trod enc Tryz.prog w base (fun _ => true) held n 58 ((cs.drop 4).take 8) = some y := h4
  have hg : ∀ j, j < 8 → ((cs.drop 4).take 8)[j]? = cs[4 + j]? := fun j hj => by rw [List.getElem?_take_of_lt hj, List.getElem?_drop]
  obtain ⟨F, a, cap, ⟨q0, q1, q2, q3, q4, q5, q6, q7⟩, hT, hO, hn⟩ := frame_open h4' (by rw [List.length_take, List.length_drop, hl]; rfl) fun n hn => hw n (by
    rw [hx]
    unfold DataW.weights
    rw [Tryz.underlying85]
    exact DataW.weights_mem_each (j := 4) (t := 58) rfl hp _ hn)
  rw [hg _ (by decide)] at q0 q1 q2 q3 q4 q5 q6 q7
  exact ⟨F, a, cap, ⟨by dsimp only; rw [q0]; rfl, by dsimp only; rw [q1]; rfl, by dsimp only; rw [q2]; rfl, by dsimp only; rw [q3]; rfl, by dsimp only; rw [q4]; rfl, by dsimp only; rw [q5]; rfl, by dsimp only; rw [q6]; rfl, by dsimp only; rw [q7]; rfl⟩, hT, hO, hn⟩
/-- A script of n steps, and the frames of its steps. -/
def ScriptF (w : World) (g off n : Nat) (f : Nat → Nat → Value) : Prop := ∀ i, i < n → (∀ j, j < 23 → w.cell? ⟨g, off + i * 23 + j, none⟩ = some (f i j)) ∧ OpIs (f i) ∧ OpF w (f i)
set_option maxRecDepth 100000 in
theorem script_openF {v : Value} {d : DataW H} {p : List MemPlace} (h : DataW.Trod enc Tryz.prog w base (fun _ => true) held 22 v d p) (hs : ∃ a l c, v = .slice a l c) (hw : ∀ n ∈ d.weights Tryz.prog 22, n ≤ reachBytes) :
    (∃ a cap, v = .slice a 0 cap) ∨ ∃ g off len cap f, v = .slice (some ⟨g, off, none⟩) len cap ∧ len * 184 ≤ 140737488351232 ∧ ScriptF w g off len f := by
  obtain ⟨fuel, h⟩ := h
  obtain ⟨va, vl, vc, rfl⟩ := hs
  rcases open_slice Tryz.underlying22 h with ⟨h0, _⟩ | ⟨a, len, cap, m, n, D, Pl, h0, hb, hl, hm, hmm, hx, hall⟩
  · exact Or.inl ⟨none, 0, (List.cons.inj h0).1⟩
  · rw [show Tryz.prog.cellsOf 85 = 23 from by kernel_rfl] at hall
    simp only [if_true] at hmm
    subst hmm
    have e0 := (List.cons.inj h0).1
    simp only [Prod.mk.injEq] at hx
    obtain ⟨rfl, rfl⟩ := hx
    have hwt : ∀ n, n ∈ (m * 184) :: (DataW.weightsAll Tryz.prog 85 ((List.range len).map D) ++ DataW.weightsAll Tryz.prog 85 ((List.range (m - len)).map fun j => D (len + j))) → n ≤ reachBytes := fun n hn => hw n (by
      unfold DataW.weights
      rw [Tryz.underlying22]
      show n ∈ (_ * Tryz.prog.bytesOf 85) :: _
      rw [show Tryz.prog.bytesOf 85 = 184 from by kernel_rfl, List.length_map, List.length_map, List.length_range, List.length_range, show len + (m - len) = m by omega]
      exact hn)
    have h1 := hwt _ (.head _)
    by_cases hz : len = 0
    · subst hz
      exact Or.inl ⟨_, _, e0⟩
    · obtain ⟨ab, ao, sp⟩ := a
      have hlen : len * 184 ≤ 140737488351232 := by simp only [reachBytes] at h1; omega
      have hc : ∀ i, i < len → ∃ cs' : List Value, cs'.length = 23 ∧ (∀ j, j < 23 → w.cell? (((⟨ab, ao, sp⟩ : Addr).add (i * 23)).add j) = cs'[j]?) ∧ OpIs (fun j => cs'[j]?.getD .nilFunc) ∧ OpF w fun j => cs'[j]?.getD .nilFunc := fun i hi => by
        obtain ⟨cs', h2, h3⟩ := hall i (by omega)
        obtain ⟨_, h4, h5⟩ := World.cells?_some h2
        have hwi : ∀ n ∈ (D i).weights Tryz.prog 85, n ≤ reachBytes := fun n hn => hwt n (.tail _ (List.mem_append_left _ (weights_mem_all (List.mem_map_of_mem (List.mem_range.2 hi)) n hn)))
        exact ⟨cs', h4, fun j hj => h5 j hj, op_open h3 h4 hwi, op_openF h3 h4 hwi⟩
      obtain ⟨cs0, h0l, h00, _⟩ := hc 0 (by omega)
      have hsp : sp = none := by
        have e := h00 0 (by decide)
        rw [List.getElem?_eq_getElem (by omega)] at e
        simpa [Addr.add] using World.cell?_spot e
      subst hsp
      refine Or.inr ⟨ab, ao, len, m, fun i j => if j < 23 then (w.cell? ⟨ab, ao + i * 23 + j, none⟩).getD .nilFunc else .nilFunc, e0, hlen, fun i hi => ?_⟩
      obtain ⟨cs', h4, h5', h6, h7⟩ := hc i hi
      have h5 : ∀ j, j < 23 → w.cell? ⟨ab, ao + i * 23 + j, none⟩ = cs'[j]? := fun j hj => by
        rw [← h5' j hj, add_none, add_none]
      have e : (fun j => if j < 23 then (w.cell? ⟨ab, ao + i * 23 + j, none⟩).getD .nilFunc else .nilFunc) = fun j => cs'[j]?.getD .nilFunc := by
        funext j
        by_cases hj : j < 23
        · rw [if_pos hj, h5 j hj]
        · rw [if_neg hj, List.getElem?_eq_none (by omega)]; rfl
      dsimp only
      rw [e]
      refine ⟨fun j hj => ?_, h6, h7⟩
      rw [if_pos hj, h5 j hj, List.getElem?_eq_getElem (by omega)]; rfl
end
end Go.Proofs.YtgccjefbedpmpaaGreatDoor

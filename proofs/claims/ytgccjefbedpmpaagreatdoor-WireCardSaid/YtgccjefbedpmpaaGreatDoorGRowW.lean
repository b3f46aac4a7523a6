import Derived.Test.YtgccjefbedpmpaaGreatDoorGEnvL
import Derived.Test.YtgccjefbedpmpaaGreatDoorGScript
import Derived.Test.YtgccjefbedpmpaaGreatDoorGRFrG
import Derived.Carry
namespace Go.Proofs.YtgccjefbedpmpaaGreatDoor
open Go.ChangeShapes Go.WideShapes Go.ChangeAt Go.RowKit
theorem laidOutW : laidOutB Tryz.prog = true := by kernel_rfl
theorem cellsU8W : Tryz.prog.cellsOf 5 = 1 := by kernel_rfl
theorem cellsFrW : Tryz.prog.cellsOf 58 = 8 := by kernel_rfl
section
variable {H : Type} {enc : TypeId × Value → H} {w : World} {base : Nat} {held : Bool}
/-- Bytes that came in. -/
theorem bytes_open {v : Value} {d : DataW H} {p : List MemPlace} (h : DataW.Trod enc Tryz.prog w base (fun _ => true) held 59 v d p) (hs : ∃ a l c, v = .slice a l c) (hw : ∀ n ∈ d.weights Tryz.prog 59, n ≤ reachBytes) : ∃ a cap l, v = .slice a l.length cap ∧ InA w a cap l := by
  obtain ⟨fuel, h⟩ := h
  obtain ⟨va, vl, vc, rfl⟩ := hs
  rcases open_ints Tryz.underlying59 Tryz.underlying5 cellsU8W h with ⟨hcs, _⟩ | ⟨a, len, cap, zs, hcs, _, hl, hm, hz, hx, hcell, hwz⟩
  · exact ⟨none, 0, [], (List.cons.inj hcs).1, Or.inl rfl⟩
  · simp only [if_true] at hz
    have e0 := (List.cons.inj hcs).1
    simp only [Prod.mk.injEq] at hx
    obtain ⟨rfl, rfl⟩ := hx
    have h1 : cap * 1 ≤ reachBytes := hw _ (by
      unfold DataW.weights
      rw [Tryz.underlying59]
      show _ ∈ (_ * Tryz.prog.bytesOf 5) :: _
      rw [show Tryz.prog.bytesOf 5 = 1 from by kernel_rfl]
      have : (lits (H := H) .u8 (zs.take len)).length + (lits (H := H) .u8 (zs.drop len)).length = cap := by
        unfold lits
        rw [List.length_map, List.length_map, ← List.length_append, List.take_append_drop, hz]
      rw [this]
      exact .head _)
    have hlen : (zs.take len).length = len := by rw [List.length_take]; omega
    by_cases h0 : len = 0
    · subst h0
      exact ⟨some a, cap, [], e0, Or.inl rfl⟩
    obtain ⟨ab, ao, sp⟩ := a
    have hsp : sp = none := by simpa [Addr.add] using World.cell?_spot (hcell 0 (by omega))
    subst hsp
    refine ⟨some ⟨ab, ao, none⟩, cap, zs.take len, by rw [hlen]; exact e0, Or.inr ⟨ab, ao, rfl, fun i hi => ?_, fun x hx => ?_, ?_, by rw [hlen]; exact hl, by unfold maxLen at hm; omega, by rw [hlen]; simp only [reachBytes] at h1; omega⟩⟩
    · rw [hlen] at hi
      have := hcell i (by omega)
      rw [add_none] at this
      rw [this, List.getD_eq_getElem?_getD, List.getElem?_eq_getElem (by omega), List.getElem_take]
      rfl
    · have := wfk (hwz x (List.mem_of_mem_take hx))
      exact kbu8 this
    · have := hcell 0 (by omega)
      rw [add_none] at this
      exact block_lt_of_cell this
/-- A frame that came in. -/
theorem frame_arg {v : Value} {d : DataW H} {p : List MemPlace} (h : DataW.Trod enc Tryz.prog w base (fun _ => true) held 58 v d p) (hs : ∃ cs, v = .agg cs ∧ cs.size = Tryz.prog.cellsOf 58) (hw : ∀ n ∈ d.weights Tryz.prog 58, n ≤ reachBytes) : ∃ (F : Frm) (a : Option Addr) (cap : Nat), v = F.val (.slice a F.ops.length cap) ∧ FrmT F ∧ OpsIs w a F.ops ∧ F.ops.length ≤ 9223372036854775807 := by
  obtain ⟨fuel, h⟩ := h
  obtain ⟨cs, rfl, hl⟩ := hs
  rw [cellsFrW] at hl
  obtain ⟨F, a, cap, ⟨q0, q1, q2, q3, q4, q5, q6, q7⟩, hT, hO, hn⟩ := frame_open (cs := cs.toList) h (by simpa using hl) hw
  refine ⟨F, a, cap, ?_, hT, hO, by omega⟩
  unfold Frm.val
  congr 1
  apply Array.ext'
  apply List.ext_getElem?
  intro i
  match i with
  | 0 => exact q0
  | 1 => exact q1
  | 2 => exact q2
  | 3 => exact q3
  | 4 => exact q4
  | 5 => exact q5
  | 6 => exact q6
  | 7 => exact q7
  | i + 8 => rw [List.getElem?_eq_none (by simp; omega), List.getElem?_eq_none (by simp)]
end
/-- What the walk gives. -/
def WireFact : Prop := ∀ (F : Frm) (aF : Option Addr) (cF : Nat) (a : Option Addr) (cap : Nat) (l : List Int) (w : World), FrmT F → F.ops.length ≤ 9223372036854775807 → OpsIs w aF F.ops → InA w a cap l → Env w → 15 ≤ w.heap.size → Calls Tryz.prog 9 #[F.val (.slice aF F.ops.length cF), .slice a l.length cap] w fun e w' => e = .returned (.bool true) ∧ Below w.heap.size w w'
def wFr : Value := .agg #[.int .i64 0, .int .u32 0, .int .u64 0, .int .u64 0, .int .u8 0, .int .u8 0, .int .u8 0, .slice none 0 0]
theorem readsW (os : Os) {H : Type} (enc : TypeId × Value → H) : ∃ d places, DataW.whole enc Tryz.prog ((laidWorld Tryz.prog os).forCall (fun _ _ => 0) ⟨#[], #[wFr, .slice none 0 0], []⟩).memory Tryz.f9.params.toList Rows.wireSpec.vars false #[wFr, Value.slice none 0 0].toList 8 = some ([d, .nil], [], places) :=
  ⟨.agg [.lit (.int .i64 0), .lit (.int .u32 0), .lit (.int .u64 0), .lit (.int .u64 0), .agg [.lit (.int .u8 0), .lit (.int .u8 0), .lit (.int .u8 0)], .nil], [], by kernel_rfl⟩
set_option maxRecDepth 100000 in
theorem contractW (hX : WireFact) (H : Type) (enc : TypeId × Value → H) (W : World) (base : Nat) (args : Array Value) (ds gs : List (DataW H)) (before : List MemPlace)
    (hval : ∀ (j : Nat) t v, Tryz.f9.params[j]? = some t → args[j]? = some v → Value.okWide Tryz.prog W .any base t v)
    (hW : DataW.Whole enc Tryz.prog Tryz.f9.params.toList Rows.wireSpec.vars false W args.toList ds gs before)
    (hsz : (DataW.weightsEach Tryz.prog (Tryz.f9.params.toList ++ (OpenSpec.ofChange Rows.wireSpec).bare.plain.varTypes Tryz.prog) (ds ++ gs)).all (· ≤ reachBytes) = true) (hL : laidMetH Tryz.prog Rows.wireRow.laid W) (hSh : W.ShapedOpen Tryz.prog) :
    Calls Tryz.prog 9 args W fun e W' => ∃ v, e = .returned v ∧ Rows.wireSpec.post enc Tryz.prog Tryz.f9 false true false false W args v W' := by
  have hW' := hW
  obtain ⟨p, q, hA0, hV, rfl, hfz, hnd⟩ := hW
  have hA : DataW.TrodAll enc Tryz.prog W 0 (fun _ => true) true Tryz.f9.params.toList args.toList ds p := hA0
  rw [Tryz.params9] at hA hval hsz
  obtain ⟨v0, vs0, d0, ds0, p0, q0, hargs, rfl, rfl, h0, r0⟩ := trodAll_cons hA
  obtain ⟨v1, vs1, d1, ds1, p1, q1, hargs1, rfl, rfl, h1, r1⟩ := trodAll_cons r0
  obtain ⟨rfl, rfl, rfl⟩ := trodAll_nil r1
  subst hargs1
  obtain rfl : args = #[v0, v1] := by cases args; simp_all
  obtain ⟨rfl, rfl⟩ := trodVars_none hV
  clear hA0
  simp only [List.append_nil] at hW' hsz
  have hlt : ∀ x ∈ p0 ++ p1, x.block < W.heap.size := fun x hx => hW'.lt x hx
  have hw0 : ∀ n ∈ d0.weights Tryz.prog 58, n ≤ reachBytes := fun n hn => by
    have := List.all_eq_true.1 hsz n (DataW.weights_mem_each (j := 0) (t := 58) rfl rfl n hn)
    simpa using this
  have hw1 : ∀ n ∈ d1.weights Tryz.prog 59, n ≤ reachBytes := fun n hn => by
    have := List.all_eq_true.1 hsz n (DataW.weights_mem_each (j := 1) (t := 59) rfl rfl n hn)
    simpa using this
  have hEn := env_ofW hL
  have hg9 := globals_of hSh
  obtain ⟨F, aF, cF, rfl, hT, hO, hn⟩ := frame_arg h0 (okWide_struct Tryz.underlying58 (hval 0 58 v0 rfl rfl)) hw0
  obtain ⟨a, cap, l, rfl, hI⟩ := bytes_open h1 (okWide_slice Tryz.underlying59 (hval 1 59 v1 rfl rfl)) hw1
  refine (hX F aF cF a cap l W hT hn hO hI hEn hg9).mono fun e W' ⟨he, bel⟩ => ?_
  subst he
  refine ⟨_, rfl, _, _, _, [], p0 ++ p1, [], hW', ?_, ?_, ?_, bel.frame _, fun h => by cases h⟩
  · exact trodAll_mk1 (shut_bool Tryz.underlying4 true)
  · exact trodAll_mk2 (Below.trod laidOutW (by kernel_rfl) (of_decide_eq_true (by kernel_rfl)) h0 bel (fun x hx => hlt x (List.mem_append_left _ hx))) (Below.trod laidOutW (by kernel_rfl) (of_decide_eq_true (by kernel_rfl)) h1 bel (fun x hx => hlt x (List.mem_append_right _ hx)))
  · rfl
set_option maxRecDepth 100000 in
theorem liftedW (hX : WireFact) (os : Os) (started : os.Started) (H : Type) (enc : TypeId × Value → H) (F : Stop.Interp) :
    ReturnsInHanded {} Tryz.checked os 9 .any ((OpenSpec.ofChange Rows.wireSpec).preRow enc Tryz.prog Tryz.f9 Rows.wireRow.domain false Rows.wireRow.laid) (((OpenSpec.ofChange Rows.wireSpec).at F).post enc Tryz.prog Tryz.f9 false true false false) := by
  obtain ⟨d, places, hx⟩ := readsW os enc
  refine returnsInHanded_of_row (C := Tryz.checked) (s := OpenSpec.ofChange Rows.wireSpec) own started (by kernel_rfl) Tryz.func9
    (witness_row_atRef (enc := enc) (C := Tryz.checked) false (laidWorld Tryz.prog os) #[wFr, .slice none 0 0] rfl (by kernel_rfl) (by kernel_rfl) (by kernel_rfl)
      (OpenSpec.preRow_of_cond 8 hx (by kernel_rfl) (fun k hk => by cases hk) (by kernel_rfl) (laid_metW os _))) ?_
  intro W base args ds gs before hval hW _ _ hsz hL hSh _
  exact contractW hX H enc W base args ds gs before hval hW hsz hL hSh
end Go.Proofs.YtgccjefbedpmpaaGreatDoor
namespace Go.Proofs.YtgccjefbedpmpaaGreatDoor
open Go.ChangeShapes Go.WideShapes Go.ChangeAt Go.RowKit
theorem plainW (f : FuncId) (fn : Func) (hf : Tryz.pinned.checked.prog.funcNamed Rows.wireRow.func = some f) (hfn : Tryz.pinned.checked.prog.funcs[f]? = some fn) :
    true = Tryz.pinned.checked.prog.looks [] ∧ ∀ (j : Nat) t, fn.params[j]? = some t → Tryz.pinned.checked.prog.wantsStandIn t = false := by
  obtain rfl : f = 9 := Option.some.inj ((show Tryz.prog.funcNamed Rows.wireRow.func = some 9 by kernel_rfl).symm.trans hf) |>.symm
  obtain rfl : fn = Tryz.f9 := (Option.some.inj (Tryz.func9.symm.trans hfn)).symm
  refine ⟨by kernel_rfl, fun j t ht => ?_⟩
  rw [Tryz.params9] at ht
  have hm : t = 58 ∨ t = 59 := by simpa using Array.mem_of_getElem? ht
  rcases hm with rfl | rfl
  · exact (show Tryz.prog.wantsStandIn 58 = false by kernel_rfl)
  · exact (show Tryz.prog.wantsStandIn 59 = false by kernel_rfl)
end Go.Proofs.YtgccjefbedpmpaaGreatDoor

import Derived.Test.YtgccjefbedpmpaaGreatDoorZWit
import Derived.Test.YtgccjefbedpmpaaGreatDoorGScript
import Derived.Test.YtgccjefbedpmpaaGreatDoorGRoots
import Derived.Carry
namespace Go.Proofs.YtgccjefbedpmpaaGreatDoor
open Go.ChangeShapes Go.WideShapes Go.ChangeAt Go.RowKit
theorem laidOut : laidOutB Tryz.prog = true := by kernel_rfl
/-- The table's name, off the row. -/
def tabName : String := ((Rows.sumsRow.laid.map fun x => x.1)[3]?).getD (String.ofList [])
theorem gTab : Tryz.prog.globalNamed tabName = some 11 := by kernel_rfl
theorem gTabType : (Tryz.prog.globals[11]?).map (·.type) = some 78 := by kernel_rfl
theorem cells64 : Tryz.prog.cellsOf 78 = 64 := by kernel_rfl
theorem cellsU32 : Tryz.prog.cellsOf 39 = 1 := by kernel_rfl
/-- What the row's list gives: the table's cells hold its numbers. -/
theorem table {W : World} (h : laidMetH Tryz.prog Rows.sumsRow.laid W) : ∀ j, j < 64 → W.cell? ⟨11, j, none⟩ = some (.int .u32 (KK j)) := by
  have h1 := laidMetH.filter (fun x => x.1 == tabName) h
  have h2 : laidMet Tryz.prog [(tabName, Lib.tabData .u32 ((List.range 64).map KK))] W := h1
  have h3 := Lib.tabIs_of_head (rest := []) gTab gTabType Tryz.underlying78 Tryz.underlying39 cellsU32 cells64 h2
  intro j hj
  have h4 := h3.cell gTab j (by simpa using hj)
  rw [h4]
  simp [List.getD, hj]
theorem reads (os : Os) {H : Type} (enc : TypeId × Value → H) : ∃ places, DataW.whole enc Tryz.prog ((laidWorld Tryz.prog os).forCall (fun _ _ => 0) ⟨#[], #[.slice none 0 0], []⟩).memory Tryz.f3.params.toList Rows.sumsSpec.vars false #[Value.slice none 0 0].toList 8 = some ([.nil], [], places) :=
  ⟨[], by kernel_rfl⟩
/-- What the walk gives. -/
def SumsFact : Prop := ∀ (a : Option Addr) (n cap : Nat) (w : World) (f : Nat → Nat → Value), n * 184 ≤ 140737488351232 → (∀ i, i < n → ∃ g off, a = some ⟨g, off, none⟩ ∧ (∀ j, j < 23 → w.cell? ⟨g, off + i * 23 + j, none⟩ = some (f i j)) ∧ OpIs (f i)) → 11 < w.heap.size → (∀ j, j < 64 → w.cell? ⟨11, j, none⟩ = some (.int .u32 (KK j))) →
  Calls Tryz.prog 3 #[.slice a n cap] w fun e w' => e = .returned (.bool true) ∧ Below w.heap.size w w'
set_option maxRecDepth 100000 in
theorem contract (hX : SumsFact) (H : Type) (enc : TypeId × Value → H) (W : World) (base : Nat) (args : Array Value) (ds gs : List (DataW H)) (before : List MemPlace)
    (hval : ∀ (j : Nat) t v, Tryz.f3.params[j]? = some t → args[j]? = some v → Value.okWide Tryz.prog W .any base t v)
    (hW : DataW.Whole enc Tryz.prog Tryz.f3.params.toList Rows.sumsSpec.vars false W args.toList ds gs before)
    (hsz : (DataW.weightsEach Tryz.prog (Tryz.f3.params.toList ++ (OpenSpec.ofChange Rows.sumsSpec).bare.plain.varTypes Tryz.prog) (ds ++ gs)).all (· ≤ reachBytes) = true) (hL : laidMetH Tryz.prog Rows.sumsRow.laid W) :
    Calls Tryz.prog 3 args W fun e W' => ∃ v, e = .returned v ∧ Rows.sumsSpec.post enc Tryz.prog Tryz.f3 false true false false W args v W' := by
  have hW' := hW
  obtain ⟨p, q, hA0, hV, rfl, hfz, hnd⟩ := hW
  have hA : DataW.TrodAll enc Tryz.prog W 0 (fun _ => true) true Tryz.f3.params.toList args.toList ds p := hA0
  rw [Tryz.params3] at hA hval hsz
  obtain ⟨v0, vs0, d0, ds0, p0, q0, hargs, rfl, rfl, h0, r0⟩ := trodAll_cons hA
  obtain ⟨rfl, rfl, rfl⟩ := trodAll_nil r0
  obtain rfl : args = #[v0] := by cases args; simp_all
  obtain ⟨rfl, rfl⟩ := trodVars_none hV
  clear hA0
  simp only [List.append_nil] at hW' hsz
  have hlt : ∀ x ∈ p0, x.block < W.heap.size := fun x hx => hW'.lt x hx
  have hwt : ∀ n ∈ d0.weights Tryz.prog 22, n ≤ reachBytes := fun n hn => by
    have := List.all_eq_true.1 hsz n (DataW.weights_mem_each (j := 0) (t := 22) rfl rfl n hn)
    simpa using this
  have hK := table hL
  have hg : 11 < W.heap.size := block_lt_of_cell (hK 0 (by decide))
  have hs := okWide_slice Tryz.underlying22 (hval 0 22 v0 rfl rfl)
  have walk : Calls Tryz.prog 3 #[v0] W fun e w' => e = .returned (.bool true) ∧ Below W.heap.size W w' := by
    rcases script_open h0 hs hwt with ⟨a, cap, rfl⟩ | ⟨g, off, len, cap, f, rfl, hn, hS⟩
    · exact hX a 0 cap W (fun _ _ => .nilFunc) (by decide) (fun i hi => absurd hi (by omega)) hg hK
    · exact hX _ len cap W f hn (fun i hi => ⟨g, off, rfl, (hS i hi).1, (hS i hi).2⟩) hg hK
  refine walk.mono fun e W' ⟨he, bel⟩ => ?_
  subst he
  refine ⟨_, rfl, _, _, _, [], p0, [], hW', ?_, ?_, ?_, bel.frame _, fun h => by cases h⟩
  · exact trodAll_mk1 (shut_bool Tryz.underlying4 true)
  · exact trodAll_mk1 (Below.trod laidOut (by kernel_rfl) (of_decide_eq_true (by kernel_rfl)) h0 bel hlt)
  · rfl
set_option maxRecDepth 100000 in
theorem lifted (hX : SumsFact) (os : Os) (started : os.Started) (H : Type) (enc : TypeId × Value → H) (F : Stop.Interp) :
    ReturnsInHanded {} Tryz.checked os 3 .any ((OpenSpec.ofChange Rows.sumsSpec).preRow enc Tryz.prog Tryz.f3 Rows.sumsRow.domain false Rows.sumsRow.laid) (((OpenSpec.ofChange Rows.sumsSpec).at F).post enc Tryz.prog Tryz.f3 false true false false) := by
  obtain ⟨places, hx⟩ := reads os enc
  refine returnsInHanded_of_row (C := Tryz.checked) (s := OpenSpec.ofChange Rows.sumsSpec) own started (by kernel_rfl) Tryz.func3
    (witness_row_atRef (enc := enc) (C := Tryz.checked) false (laidWorld Tryz.prog os) #[.slice none 0 0] rfl (by kernel_rfl) (by kernel_rfl) (by kernel_rfl)
      (OpenSpec.preRow_of_cond 8 hx (by kernel_rfl) (fun k hk => by cases hk) (by kernel_rfl) (laid_met os _))) ?_
  intro W base args ds gs before hval hW _ _ hsz hL _ _
  exact contract hX H enc W base args ds gs before hval hW hsz hL
end Go.Proofs.YtgccjefbedpmpaaGreatDoor
namespace Go.Proofs.YtgccjefbedpmpaaGreatDoor
open Go.ChangeShapes Go.WideShapes Go.ChangeAt Go.RowKit
theorem plainS (f : FuncId) (fn : Func) (hf : Tryz.pinned.checked.prog.funcNamed Rows.sumsRow.func = some f) (hfn : Tryz.pinned.checked.prog.funcs[f]? = some fn) :
    true = Tryz.pinned.checked.prog.looks [] ∧ ∀ (j : Nat) t, fn.params[j]? = some t → Tryz.pinned.checked.prog.wantsStandIn t = false := by
  obtain rfl : f = 3 := Option.some.inj ((show Tryz.prog.funcNamed Rows.sumsRow.func = some 3 by kernel_rfl).symm.trans hf) |>.symm
  obtain rfl : fn = Tryz.f3 := (Option.some.inj (Tryz.func3.symm.trans hfn)).symm
  refine ⟨by kernel_rfl, fun j t ht => ?_⟩
  rw [Tryz.params3] at ht
  obtain rfl : t = 22 := by simpa using Array.mem_of_getElem? ht
  exact (show Tryz.prog.wantsStandIn 22 = false by kernel_rfl)
end Go.Proofs.YtgccjefbedpmpaaGreatDoor

import Derived.Test.YtgccjefbedpmpaaGreatDoorGRowW
import Derived.Test.YtgccjefbedpmpaaGreatDoorZFactsW
import Derived.Test.YtgccjefbedpmpaaGreatDoorCards
namespace Go.Proofs.YtgccjefbedpmpaaGreatDoor
open Go.ChangeShapes Go.WideShapes Go.ChangeAt Go.RowKit
theorem kx0 : (Rows.wireRow.wf (OpenSpec.ofChange (OpenSpec.ofChange Rows.wireSpec).bare) : Bool) = true := by kernel_rfl
theorem kx4 : (namedTie Tryz.prog Rows.wireRow.named (OpenSpec.ofChange Rows.wireSpec).bare.vars : Bool) = true := by kernel_rfl
theorem kx13 : ((Rows.wireRow.maps == (Tryz.f9.params.toList ++ (OpenSpec.ofChange Rows.wireSpec).bare.plain.varTypes Tryz.prog).any (Tryz.prog.mapsRec ·)) : Bool) = true := by kernel_rfl
theorem kx14 : ((Rows.wireRow.ifaces == (Tryz.f9.params.toList ++ (OpenSpec.ofChange Rows.wireSpec).bare.plain.varTypes Tryz.prog).any (Tryz.prog.ifacesRec ·)) : Bool) = true := by kernel_rfl
theorem kx16 : ((Rows.wireRow.loops == (Tryz.f9.params.toList ++ (OpenSpec.ofChange Rows.wireSpec).bare.plain.varTypes Tryz.prog).any (Tryz.prog.loopsFrom ·)) : Bool) = true := by kernel_rfl
theorem kx17 : ((Rows.wireRow.wideKeys == (Tryz.f9.params.toList ++ (OpenSpec.ofChange Rows.wireSpec).bare.plain.varTypes Tryz.prog ++ Tryz.f9.resultTypes.toList).any (Tryz.prog.wideKeysFrom ·)) : Bool) = true := by kernel_rfl
theorem kx18 : ((OpenSpec.ofChange Rows.wireSpec).bare.vars.all (Tryz.prog.varReadable ·) : Bool) = true := by kernel_rfl
theorem kx30 : ((Rows.wireRow.veiled == (Tryz.f9.params.toList ++ (OpenSpec.ofChange Rows.wireSpec).bare.plain.varTypes Tryz.prog ++ Tryz.f9.resultTypes.toList).any (Tryz.prog.veiledRec ·)) : Bool) = true := by kernel_rfl
theorem kx31 : (Rows.wireRow.veiledFits Tryz.prog Tryz.f9.params.toList (Tryz.f9.params.toList ++ (OpenSpec.ofChange Rows.wireSpec).bare.plain.varTypes Tryz.prog ++ Tryz.f9.resultTypes.toList) : Bool) = true := by kernel_rfl
set_option maxRecDepth 100000 in
theorem factsW : joinedFacts Tryz.prog 9 Tryz.f9 (OpenSpec.ofChange Rows.wireSpec).bare Rows.wireRow = true :=
  (and_w (and_w (and_w (and_w (and_w (and_w (and_w (and_w (and_w (and_w (and_w (and_w (and_w (and_w (and_w (and_w (and_w (and_w (and_w (and_w (and_w (and_w (and_w (and_w (and_w (and_w (and_w (and_w (and_w (and_w (and_w kx0 kw1) kw2) kw3) kx4) kw5) kw6) kw7) kw8) kw9) kw10) kw11) kw12) kx13) kx14) kw15) kx16) kx17) kx18) kw19) kw20) kw21) kw22) kw23) kw24) kw25) kw26) kw27) kw28) kw29) kx30) kx31)
theorem pinned_progW : Tryz.pinned.checked.prog = Tryz.prog := by kernel_rfl
theorem facts2W : joinedFacts Tryz.pinned.checked.prog 9 Tryz.f9 (OpenSpec.ofChange Rows.wireSpec).bare Rows.wireRow = true := by
  rw [pinned_progW]; exact factsW
end Go.Proofs.YtgccjefbedpmpaaGreatDoor
namespace Go.Proofs.YtgccjefbedpmpaaGreatDoor
open Go.ChangeShapes Go.WideShapes Go.ChangeAt Go.RowKit
theorem saidW (hX : WireFact) : Rows.WireSaid :=
  OpenClaim.holds_of_cond 9 Tryz.f9 rfl rfl rfl rfl rfl rfl rfl ⟨rfl, rfl, rfl, rfl, rfl⟩ rfl rfl rfl rfl rfl (by kernel_rfl) Tryz.func9 facts2W
    (of_decide_eq_true (by kernel_rfl)) (by unfold Func.isWrapper; first | (rw [if_pos (by decide +kernel)]; kernel_rfl) | (rw [if_neg (by decide +kernel)]; exact ⟨rfl, rfl⟩))
    (fun os started H enc _ F => by rw [OpenClaim.pre_eq_preRow]; exact liftedW hX os started H enc F)
end Go.Proofs.YtgccjefbedpmpaaGreatDoor
namespace Go.Proofs.YtgccjefbedpmpaaGreatDoor
open Go.ChangeShapes Go.WideShapes Go.ChangeAt Go.RowKit
theorem hwW : Rows.wireRow.wfByText (OpenSpec.ofChange Rows.wireSpec) = true := by kernel_rfl
theorem hmW : Tryz.pinned.checked.prog.mainIs = some (Rows.wireCard.stood.harness.1, Rows.wireCard.stood.harness.2.toList) := by
  rw [pinned_progW]; kernel_rfl
end Go.Proofs.YtgccjefbedpmpaaGreatDoor
namespace Go.Proofs.YtgccjefbedpmpaaGreatDoor
open Go
/-- No function of the program starts a goroutine. -/
theorem goesNone : Tryz.prog.funcs.toList.all (fun fn => !fn.goes) = true := by kernel_rfl
theorem goes_at {g : Nat} {fn : Func} (h : Tryz.prog.funcs[g]? = some fn) : fn.goes = false := by
  have hm : fn ∈ Tryz.prog.funcs.toList := Array.mem_toList_iff.2 (Array.mem_of_getElem? h)
  simpa using List.all_eq_true.1 goesNone fn hm
theorem goes_any (f : FuncId) : Tryz.prog.goes f = false := by
  unfold Program.goes
  have h1 : ((Tryz.prog.closure f).any fun g => (Tryz.prog.funcs[g]?).any Func.goes) = false := by
    rw [List.any_eq_false]
    intro g _
    cases h : Tryz.prog.funcs[g]? with
    | none => simp
    | some fn => simp [goes_at h]
  have h2 : Tryz.prog.funcs.any Func.goes = false := by
    rw [Array.any_eq_false]
    intro i hi
    simp [goes_at (Array.getElem?_eq_getElem hi)]
  rw [h1, h2, Bool.and_false, Bool.or_false]
theorem goes_from (s : String) : Tryz.prog.goesFrom s = false := by
  unfold Program.goesFrom
  generalize Tryz.prog.funcNamed s = o
  cases o with
  | none => rfl
  | some f => rw [Option.any_some, goes_any]
end Go.Proofs.YtgccjefbedpmpaaGreatDoor
namespace Go.Proofs.YtgccjefbedpmpaaGreatDoor
open Go.ChangeShapes Go.WideShapes Go.ChangeAt Go.RowKit
theorem hgW : false = Rows.wireRow.goesBy Tryz.pinned.checked.prog := by
  rw [pinned_progW]
  unfold OpenClaim.goesBy Program.goesAt
  rw [goes_from, show Rows.wireRow.start = .entering from rfl]
  rfl
end Go.Proofs.YtgccjefbedpmpaaGreatDoor

import Derived.Test.YtgccjefbedpmpaaGreatDoorGRowF
import Derived.Test.YtgccjefbedpmpaaGreatDoorZFactsF
import Derived.Test.YtgccjefbedpmpaaGreatDoorCards
namespace Go.Proofs.YtgccjefbedpmpaaGreatDoor
open Go.ChangeShapes Go.WideShapes Go.ChangeAt Go.RowKit
theorem kb0 : (Rows.framesRow.wf (OpenSpec.ofChange (OpenSpec.ofChange Rows.framesSpec).bare) : Bool) = true := by kernel_rfl
theorem kb4 : (namedTie Tryz.prog Rows.framesRow.named (OpenSpec.ofChange Rows.framesSpec).bare.vars : Bool) = true := by kernel_rfl
theorem kb13 : ((Rows.framesRow.maps == (Tryz.f4.params.toList ++ (OpenSpec.ofChange Rows.framesSpec).bare.plain.varTypes Tryz.prog).any (Tryz.prog.mapsRec ·)) : Bool) = true := by kernel_rfl
theorem kb14 : ((Rows.framesRow.ifaces == (Tryz.f4.params.toList ++ (OpenSpec.ofChange Rows.framesSpec).bare.plain.varTypes Tryz.prog).any (Tryz.prog.ifacesRec ·)) : Bool) = true := by kernel_rfl
theorem kb16 : ((Rows.framesRow.loops == (Tryz.f4.params.toList ++ (OpenSpec.ofChange Rows.framesSpec).bare.plain.varTypes Tryz.prog).any (Tryz.prog.loopsFrom ·)) : Bool) = true := by kernel_rfl
theorem kb17 : ((Rows.framesRow.wideKeys == (Tryz.f4.params.toList ++ (OpenSpec.ofChange Rows.framesSpec).bare.plain.varTypes Tryz.prog ++ Tryz.f4.resultTypes.toList).any (Tryz.prog.wideKeysFrom ·)) : Bool) = true := by kernel_rfl
theorem kb18 : ((OpenSpec.ofChange Rows.framesSpec).bare.vars.all (Tryz.prog.varReadable ·) : Bool) = true := by kernel_rfl
theorem kb30 : ((Rows.framesRow.veiled == (Tryz.f4.params.toList ++ (OpenSpec.ofChange Rows.framesSpec).bare.plain.varTypes Tryz.prog ++ Tryz.f4.resultTypes.toList).any (Tryz.prog.veiledRec ·)) : Bool) = true := by kernel_rfl
theorem kb31 : (Rows.framesRow.veiledFits Tryz.prog Tryz.f4.params.toList (Tryz.f4.params.toList ++ (OpenSpec.ofChange Rows.framesSpec).bare.plain.varTypes Tryz.prog ++ Tryz.f4.resultTypes.toList) : Bool) = true := by kernel_rfl
set_option maxRecDepth 100000 in
theorem factsF : joinedFacts Tryz.prog 4 Tryz.f4 (OpenSpec.ofChange Rows.framesSpec).bare Rows.framesRow = true :=
  (and_f (and_f (and_f (and_f (and_f (and_f (and_f (and_f (and_f (and_f (and_f (and_f (and_f (and_f (and_f (and_f (and_f (and_f (and_f (and_f (and_f (and_f (and_f (and_f (and_f (and_f (and_f (and_f (and_f (and_f (and_f kb0 kf1) kf2) kf3) kb4) kf5) kf6) kf7) kf8) kf9) kf10) kf11) kf12) kb13) kb14) kf15) kb16) kb17) kb18) kf19) kf20) kf21) kf22) kf23) kf24) kf25) kf26) kf27) kf28) kf29) kb30) kb31)
theorem pinned_progF : Tryz.pinned.checked.prog = Tryz.prog := by kernel_rfl
theorem facts2F : joinedFacts Tryz.pinned.checked.prog 4 Tryz.f4 (OpenSpec.ofChange Rows.framesSpec).bare Rows.framesRow = true := by
  rw [pinned_progF]; exact factsF
end Go.Proofs.YtgccjefbedpmpaaGreatDoor
namespace Go.Proofs.YtgccjefbedpmpaaGreatDoor
open Go.ChangeShapes Go.WideShapes Go.ChangeAt Go.RowKit
theorem saidF (hX : FramesFact) : Rows.FramesSaid :=
  OpenClaim.holds_of_cond 4 Tryz.f4 rfl rfl rfl rfl rfl rfl rfl ⟨rfl, rfl, rfl, rfl, rfl⟩ rfl rfl rfl rfl rfl (by kernel_rfl) Tryz.func4 facts2F
    (of_decide_eq_true (by kernel_rfl)) (by unfold Func.isWrapper; first | (rw [if_pos (by decide +kernel)]; kernel_rfl) | (rw [if_neg (by decide +kernel)]; exact ⟨rfl, rfl⟩))
    (fun os started H enc _ F => by rw [OpenClaim.pre_eq_preRow]; exact liftedF hX os started H enc F)
end Go.Proofs.YtgccjefbedpmpaaGreatDoor
namespace Go.Proofs.YtgccjefbedpmpaaGreatDoor
open Go.ChangeShapes Go.WideShapes Go.ChangeAt Go.RowKit
theorem hwF : Rows.framesRow.wfByText (OpenSpec.ofChange Rows.framesSpec) = true := by kernel_rfl
theorem hmF : Tryz.pinned.checked.prog.mainIs = some (Rows.framesCard.stood.harness.1, Rows.framesCard.stood.harness.2.toList) := by
  rw [pinned_progF]; kernel_rfl
end Go.Proofs.YtgccjefbedpmpaaGreatDoor
namespace Go.Proofs.YtgccjefbedpmpaaGreatDoor
open Go
/-- No function of the program starts a goroutine. -/
theorem goesNone : Tryz.prog.funcs.toList.all (fun fn => !fn.goes) = true := by kernel_rfl
theorem goes_at {g : Nat} {fn : Func} (h : Tryz.prog.funcs[g]? = some fn) : fn.goes = false := by
  have hm : fn ∈ Tryz.prog.funcs.toList := Array.mem_toList_iff.2 (Array.mem_of_getElem? h)
  simpa using List.all_eq_true.1 goesNone fn hm
theorem goes_any (f : FuncId) : Tryz.prog.goes f = false := by
  unfold Program.goes
  have h1 : ((Tryz.prog.closure f).any fun g => (Tryz.prog.funcs[g]?).any Func.goes) = false := by
    rw [List.any_eq_false]
    intro g _
    cases h : Tryz.prog.funcs[g]? with
    | none => simp
    | some fn => simp [goes_at h]
  have h2 : Tryz.prog.funcs.any Func.goes = false := by
    rw [Array.any_eq_false]
    intro i hi
    simp [goes_at (Array.getElem?_eq_getElem hi)]
  rw [h1, h2, Bool.and_false, Bool.or_false]
theorem goes_from (s : String) : Tryz.prog.goesFrom s = false := by
  unfold Program.goesFrom
  generalize Tryz.prog.funcNamed s = o
  cases o with
  | none => rfl
  | some f => rw [Option.any_some, goes_any]
end Go.Proofs.YtgccjefbedpmpaaGreatDoor
namespace Go.Proofs.YtgccjefbedpmpaaGreatDoor
open Go.ChangeShapes Go.WideShapes Go.ChangeAt Go.RowKit
theorem hgF : false = Rows.framesRow.goesBy Tryz.pinned.checked.prog := by
  rw [pinned_progF]
  unfold OpenClaim.goesBy Program.goesAt
  rw [goes_from, show Rows.framesRow.start = .entering from rfl]
  rfl
end Go.Proofs.YtgccjefbedpmpaaGreatDoor

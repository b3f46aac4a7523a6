import Derived.Test.YtgccjefbedpmpaaGreatDoorGRow
import Derived.Test.YtgccjefbedpmpaaGreatDoorZFacts
import Derived.Test.YtgccjefbedpmpaaGreatDoorCards
namespace Go.Proofs.YtgccjefbedpmpaaGreatDoor
open Go.ChangeShapes Go.WideShapes Go.ChangeAt Go.RowKit
theorem jb0 : (Rows.sumsRow.wf (OpenSpec.ofChange (OpenSpec.ofChange Rows.sumsSpec).bare) : Bool) = true := by kernel_rfl
theorem jb4 : (namedTie Tryz.prog Rows.sumsRow.named (OpenSpec.ofChange Rows.sumsSpec).bare.vars : Bool) = true := by kernel_rfl
theorem jb13 : ((Rows.sumsRow.maps == (Tryz.f3.params.toList ++ (OpenSpec.ofChange Rows.sumsSpec).bare.plain.varTypes Tryz.prog).any (Tryz.prog.mapsRec ·)) : Bool) = true := by kernel_rfl
theorem jb14 : ((Rows.sumsRow.ifaces == (Tryz.f3.params.toList ++ (OpenSpec.ofChange Rows.sumsSpec).bare.plain.varTypes Tryz.prog).any (Tryz.prog.ifacesRec ·)) : Bool) = true := by kernel_rfl
theorem jb16 : ((Rows.sumsRow.loops == (Tryz.f3.params.toList ++ (OpenSpec.ofChange Rows.sumsSpec).bare.plain.varTypes Tryz.prog).any (Tryz.prog.loopsFrom ·)) : Bool) = true := by kernel_rfl
theorem jb17 : ((Rows.sumsRow.wideKeys == (Tryz.f3.params.toList ++ (OpenSpec.ofChange Rows.sumsSpec).bare.plain.varTypes Tryz.prog ++ Tryz.f3.resultTypes.toList).any (Tryz.prog.wideKeysFrom ·)) : Bool) = true := by kernel_rfl
theorem jb18 : ((OpenSpec.ofChange Rows.sumsSpec).bare.vars.all (Tryz.prog.varReadable ·) : Bool) = true := by kernel_rfl
theorem jb30 : ((Rows.sumsRow.veiled == (Tryz.f3.params.toList ++ (OpenSpec.ofChange Rows.sumsSpec).bare.plain.varTypes Tryz.prog ++ Tryz.f3.resultTypes.toList).any (Tryz.prog.veiledRec ·)) : Bool) = true := by kernel_rfl
theorem jb31 : (Rows.sumsRow.veiledFits Tryz.prog Tryz.f3.params.toList (Tryz.f3.params.toList ++ (OpenSpec.ofChange Rows.sumsSpec).bare.plain.varTypes Tryz.prog ++ Tryz.f3.resultTypes.toList) : Bool) = true := by kernel_rfl
set_option maxRecDepth 100000 in
theorem factsS : joinedFacts Tryz.prog 3 Tryz.f3 (OpenSpec.ofChange Rows.sumsSpec).bare Rows.sumsRow = true :=
  (and_t (and_t (and_t (and_t (and_t (and_t (and_t (and_t (and_t (and_t (and_t (and_t (and_t (and_t (and_t (and_t (and_t (and_t (and_t (and_t (and_t (and_t (and_t (and_t (and_t (and_t (and_t (and_t (and_t (and_t (and_t jb0 jf1) jf2) jf3) jb4) jf5) jf6) jf7) jf8) jf9) jf10) jf11) jf12) jb13) jb14) jf15) jb16) jb17) jb18) jf19) jf20) jf21) jf22) jf23) jf24) jf25) jf26) jf27) jf28) jf29) jb30) jb31)
theorem pinned_progS : Tryz.pinned.checked.prog = Tryz.prog := by kernel_rfl
theorem facts2S : joinedFacts Tryz.pinned.checked.prog 3 Tryz.f3 (OpenSpec.ofChange Rows.sumsSpec).bare Rows.sumsRow = true := by
  rw [pinned_progS]; exact factsS
end Go.Proofs.YtgccjefbedpmpaaGreatDoor
namespace Go.Proofs.YtgccjefbedpmpaaGreatDoor
open Go.ChangeShapes Go.WideShapes Go.ChangeAt Go.RowKit
theorem saidS (hX : SumsFact) : Rows.SumsSaid :=
  OpenClaim.holds_of_cond 3 Tryz.f3 rfl rfl rfl rfl rfl rfl rfl ⟨rfl, rfl, rfl, rfl, rfl⟩ rfl rfl rfl rfl rfl (by kernel_rfl) Tryz.func3 facts2S
    (of_decide_eq_true (by kernel_rfl)) (by unfold Func.isWrapper; first | (rw [if_pos (by decide +kernel)]; kernel_rfl) | (rw [if_neg (by decide +kernel)]; exact ⟨rfl, rfl⟩))
    (fun os started H enc _ F => by rw [OpenClaim.pre_eq_preRow]; exact lifted hX os started H enc F)
end Go.Proofs.YtgccjefbedpmpaaGreatDoor
namespace Go.Proofs.YtgccjefbedpmpaaGreatDoor
open Go.ChangeShapes Go.WideShapes Go.ChangeAt Go.RowKit
theorem hwS : Rows.sumsRow.wfByText (OpenSpec.ofChange Rows.sumsSpec) = true := by kernel_rfl
theorem hmS : Tryz.pinned.checked.prog.mainIs = some (Rows.sumsCard.stood.harness.1, Rows.sumsCard.stood.harness.2.toList) := by
  rw [pinned_progS]; kernel_rfl
end Go.Proofs.YtgccjefbedpmpaaGreatDoor
namespace Go.Proofs.YtgccjefbedpmpaaGreatDoor
open Go
/-- No function of the program starts a goroutine. -/
theorem goesNone : Tryz.prog.funcs.toList.all (fun fn => !fn.goes) = true := by kernel_rfl
theorem goes_at {g : Nat} {fn : Func} (h : Tryz.prog.funcs[g]? = some fn) : fn.goes = false := by
  have hm : fn ∈ Tryz.prog.funcs.toList := Array.mem_toList_iff.2 (Array.mem_of_getElem? h)
  simpa using List.all_eq_true.1 goesNone fn hm
theorem goes_any (f : FuncId) : Tryz.prog.goes f = false := by
  unfold Program.goes
  have h1 : ((Tryz.prog.closure f).any fun g => (Tryz.prog.funcs[g]?).any Func.goes) = false := by
    rw [List.any_eq_false]
    intro g _
    cases h : Tryz.prog.funcs[g]? with
    | none => simp
    | some fn => simp [goes_at h]
  have h2 : Tryz.prog.funcs.any Func.goes = false := by
    rw [Array.any_eq_false]
    intro i hi
    simp [goes_at (Array.getElem?_eq_getElem hi)]
  rw [h1, h2, Bool.and_false, Bool.or_false]
theorem goes_from (s : String) : Tryz.prog.goesFrom s = false := by
  unfold Program.goesFrom
  generalize Tryz.prog.funcNamed s = o
  cases o with
  | none => rfl
  | some f => rw [Option.any_some, goes_any]
end Go.Proofs.YtgccjefbedpmpaaGreatDoor
namespace Go.Proofs.YtgccjefbedpmpaaGreatDoor
open Go.ChangeShapes Go.WideShapes Go.ChangeAt Go.RowKit
theorem hgS : false = Rows.sumsRow.goesBy Tryz.pinned.checked.prog := by
  rw [pinned_progS]
  unfold OpenClaim.goesBy Program.goesAt
  rw [goes_from, show Rows.sumsRow.start = .entering from rfl]
  rfl
end Go.Proofs.YtgccjefbedpmpaaGreatDoor

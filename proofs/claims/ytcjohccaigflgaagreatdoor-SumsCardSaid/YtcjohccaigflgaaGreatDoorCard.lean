import Derived.Test.YtcjohccaigflgaaGreatDoorRow
import Derived.Test.YtcjohccaigflgaaGreatDoorFacts
import Derived.Test.YtcjohccaigflgaaGreatDoorSums
namespace Go.Proofs.YtcjohccaigflgaaGreatDoor
open Go.ChangeShapes Go.WideShapes Go.ChangeAt Go.RowKit
theorem jb0 : (Rows.sumsRow.wf (OpenSpec.ofChange (OpenSpec.ofChange Rows.sumsSpec).bare) : Bool) = true := by kernel_rfl
theorem jb4 : (namedTie Tryz.prog Rows.sumsRow.named (OpenSpec.ofChange Rows.sumsSpec).bare.vars : Bool) = true := by kernel_rfl
theorem jb13 : ((Rows.sumsRow.maps == (Tryz.f3.params.toList ++ (OpenSpec.ofChange Rows.sumsSpec).bare.plain.varTypes Tryz.prog).any (Tryz.prog.mapsRec ·)) : Bool) = true := by kernel_rfl
theorem jb14 : ((Rows.sumsRow.ifaces == (Tryz.f3.params.toList ++ (OpenSpec.ofChange Rows.sumsSpec).bare.plain.varTypes Tryz.prog).any (Tryz.prog.ifacesRec ·)) : Bool) = true := by kernel_rfl
theorem jb16 : ((Rows.sumsRow.loops == (Tryz.f3.params.toList ++ (OpenSpec.ofChange Rows.sumsSpec).bare.plain.varTypes Tryz.prog).any (Tryz.prog.loopsFrom ·)) : Bool) = true := by kernel_rfl
theorem jb17 : ((Rows.sumsRow.wideKeys == (Tryz.f3.params.toList ++ (OpenSpec.ofChange Rows.sumsSpec).bare.plain.varTypes Tryz.prog ++ Tryz.f3.resultTypes.toList).any (Tryz.prog.wideKeysFrom ·)) : Bool) = true := by kernel_rfl
theorem jb18 : ((OpenSpec.ofChange Rows.sumsSpec).bare.vars.all (Tryz.prog.varReadable ·) : Bool) = true := by kernel_rfl
theorem jb30 : ((Rows.sumsRow.veiled == (Tryz.f3.params.toList ++ (OpenSpec.ofChange Rows.sumsSpec).bare.plain.varTypes Tryz.prog ++ Tryz.f3.resultTypes.toList).any (Tryz.prog.veiledRec ·)) : Bool) = true := by kernel_rfl
theorem jb31 : (Rows.sumsRow.veiledFits Tryz.prog Tryz.f3.params.toList (Tryz.f3.params.toList ++ (OpenSpec.ofChange Rows.sumsSpec).bare.plain.varTypes Tryz.prog ++ Tryz.f3.resultTypes.toList) : Bool) = true := by kernel_rfl
set_option maxRecDepth 100000 in
theorem facts : joinedFacts Tryz.prog 3 Tryz.f3 (OpenSpec.ofChange Rows.sumsSpec).bare Rows.sumsRow = true :=
  (and_t (and_t (and_t (and_t (and_t (and_t (and_t (and_t (and_t (and_t (and_t (and_t (and_t (and_t (and_t (and_t (and_t (and_t (and_t (and_t (and_t (and_t (and_t (and_t (and_t (and_t (and_t (and_t (and_t (and_t (and_t jb0 jf1) jf2) jf3) jb4) jf5) jf6) jf7) jf8) jf9) jf10) jf11) jf12) jb13) jb14) jf15) jb16) jb17) jb18) jf19) jf20) jf21) jf22) jf23) jf24) jf25) jf26) jf27) jf28) jf29) jb30) jb31)
theorem pinned_prog : Tryz.pinned.checked.prog = Tryz.prog := by kernel_rfl
theorem facts2 : joinedFacts Tryz.pinned.checked.prog 3 Tryz.f3 (OpenSpec.ofChange Rows.sumsSpec).bare Rows.sumsRow = true := by
  rw [pinned_prog]; exact facts
theorem said (hX : SumsFact) : Rows.SumsSaid :=
  OpenClaim.holds_of_cond 3 Tryz.f3 rfl rfl rfl rfl rfl rfl rfl ⟨rfl, rfl, rfl, rfl, rfl⟩ rfl rfl rfl rfl rfl (by kernel_rfl) Tryz.func3 facts2
    (of_decide_eq_true (by kernel_rfl)) (by unfold Func.isWrapper; first | (rw [if_pos (by decide +kernel)]; kernel_rfl) | (rw [if_neg (by decide +kernel)]; exact ⟨rfl, rfl⟩))
    (fun os started H enc _ F => by rw [OpenClaim.pre_eq_preRow]; exact lifted hX os started H enc F)
theorem plain (f : FuncId) (fn : Func) (hf : Tryz.pinned.checked.prog.funcNamed Rows.sumsRow.func = some f) (hfn : Tryz.pinned.checked.prog.funcs[f]? = some fn) :
    true = Tryz.pinned.checked.prog.looks [] ∧ ∀ (j : Nat) t, fn.params[j]? = some t → Tryz.pinned.checked.prog.wantsStandIn t = false := by
  obtain rfl : f = 3 := Option.some.inj ((show Tryz.prog.funcNamed Rows.sumsRow.func = some 3 by kernel_rfl).symm.trans hf) |>.symm
  obtain rfl : fn = Tryz.f3 := (Option.some.inj (Tryz.func3.symm.trans hfn)).symm
  refine ⟨by kernel_rfl, fun j t ht => ?_⟩
  rw [Tryz.params3] at ht
  obtain rfl : t = 22 := by simpa using Array.mem_of_getElem? ht
  exact (show Tryz.prog.wantsStandIn 22 = false by kernel_rfl)
theorem card (hX : SumsFact) : Rows.SumsCardSaid :=
  Claim7.holds_tied_plain_at .later [] _ _ _ _ (said hX) (fun _ h => by cases h) (by kernel_rfl) (fun _ h => by cases h) sums_row_tie rfl ⟨rfl, rfl⟩ (by kernel_rfl) rfl plain (by kernel_rfl)
theorem sums_card : Rows.SumsCardSaid := card sums_any
end Go.Proofs.YtcjohccaigflgaaGreatDoor

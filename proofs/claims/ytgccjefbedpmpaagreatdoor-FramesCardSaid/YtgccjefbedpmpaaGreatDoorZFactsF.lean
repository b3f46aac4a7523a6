import Derived.Test.YtgccjefbedpmpaaGreatDoorRows
import Derived.JoinedOf
namespace Go.Proofs.YtgccjefbedpmpaaGreatDoor
theorem and_f {a b : Bool} (ha : a = true) (hb : b = true) : (a && b) = true := by rw [ha, hb]; rfl
theorem kf0 : (Rows.framesRow.wf (OpenSpec.ofChange Rows.framesSpec) : Bool) = true := by kernel_rfl
theorem kf1 : (laidOutB Tryz.prog : Bool) = true := by kernel_rfl
theorem kf2 : (mapsRowed Tryz.prog : Bool) = true := by kernel_rfl
theorem kf3 : (Tryz.f4.params.all (Tryz.prog.readableRec ·) : Bool) = true := by kernel_rfl
theorem kf4 : (namedTie Tryz.prog Rows.framesRow.named Rows.framesSpec.vars : Bool) = true := by kernel_rfl
theorem kf5 : ((Rows.framesRow.stops == []) : Bool) = true := by kernel_rfl
theorem kf6 : ((Tryz.prog.stops == []) : Bool) = true := by kernel_rfl
theorem kf7 : ((Rows.framesRow.knobs == []) : Bool) = true := by kernel_rfl
theorem kf8 : ((Tryz.prog.stopKnobs == []) : Bool) = true := by kernel_rfl
theorem kf9 : ((Rows.framesRow.inPlace == Tryz.prog.inPlace 4) : Bool) = true := by kernel_rfl
theorem kf10 : ((Rows.framesRow.unfollowed == Tryz.prog.unfollowed 4) : Bool) = true := by kernel_rfl
theorem kf11 : ((Rows.framesRow.recurses == Tryz.prog.recurses 4) : Bool) = true := by kernel_rfl
theorem kf12 : ((Rows.framesRow.named == Tryz.prog.varsNamed 4) : Bool) = true := by kernel_rfl
theorem kf13 : ((Rows.framesRow.maps == (Tryz.f4.params.toList ++ Rows.framesSpec.plain.varTypes Tryz.prog).any (Tryz.prog.mapsRec ·)) : Bool) = true := by kernel_rfl
theorem kf14 : ((Rows.framesRow.ifaces == (Tryz.f4.params.toList ++ Rows.framesSpec.plain.varTypes Tryz.prog).any (Tryz.prog.ifacesRec ·)) : Bool) = true := by kernel_rfl
theorem kf15 : ((Rows.framesRow.mapsOut == Tryz.prog.mapsAmong Tryz.f4.resultTypes.toList) : Bool) = true := by kernel_rfl
theorem kf16 : ((Rows.framesRow.loops == (Tryz.f4.params.toList ++ Rows.framesSpec.plain.varTypes Tryz.prog).any (Tryz.prog.loopsFrom ·)) : Bool) = true := by kernel_rfl
theorem kf17 : ((Rows.framesRow.wideKeys == (Tryz.f4.params.toList ++ Rows.framesSpec.plain.varTypes Tryz.prog ++ Tryz.f4.resultTypes.toList).any (Tryz.prog.wideKeysFrom ·)) : Bool) = true := by kernel_rfl
theorem kf18 : (Rows.framesSpec.vars.all (Tryz.prog.varReadable ·) : Bool) = true := by kernel_rfl
theorem kf19 : (Tryz.f4.resultTypes.all (fun t => Tryz.prog.readableRec t && decide (t < Tryz.prog.types.size)) : Bool) = true := by kernel_rfl
theorem kf20 : ((Rows.framesRow.ifacesOut == Tryz.f4.resultTypes.toList.any (Tryz.prog.ifacesRec ·)) : Bool) = true := by kernel_rfl
theorem kf21 : ((Rows.framesRow.loopsOut == Tryz.f4.resultTypes.toList.any (Tryz.prog.loopsFrom ·)) : Bool) = true := by kernel_rfl
theorem kf22 : ((Rows.framesRow.plainKeys == Tryz.prog.plainKeys) : Bool) = true := by kernel_rfl
theorem kf23 : (Rows.framesRow.shortTexts.isNone : Bool) = true := by kernel_rfl
theorem kf24 : (Tryz.prog.stopsHeard : Bool) = true := by kernel_rfl
theorem kf25 : (Tryz.prog.mayEnter : Bool) = true := by kernel_rfl
theorem kf26 : ((Rows.framesRow.lifted == Tryz.prog.liftsFinal) : Bool) = true := by kernel_rfl
theorem kf27 : ((Tryz.prog.make == some Rows.framesRow.make) : Bool) = true := by kernel_rfl
theorem kf28 : ((Rows.framesRow.kinds == (if Rows.framesRow.domain.isEmpty then [] else Tryz.f4.params.toList.map fun t => match Tryz.prog.underlying t with | some (.int k) => some k | _ => none)) : Bool) = true := by kernel_rfl
theorem kf29 : ((Rows.framesRow.pinned == Rows.framesRow.pinnedBy) : Bool) = true := by kernel_rfl
theorem kf30 : ((Rows.framesRow.veiled == (Tryz.f4.params.toList ++ Rows.framesSpec.plain.varTypes Tryz.prog ++ Tryz.f4.resultTypes.toList).any (Tryz.prog.veiledRec ·)) : Bool) = true := by kernel_rfl
theorem kf31 : (Rows.framesRow.veiledFits Tryz.prog Tryz.f4.params.toList (Tryz.f4.params.toList ++ Rows.framesSpec.plain.varTypes Tryz.prog ++ Tryz.f4.resultTypes.toList) : Bool) = true := by kernel_rfl
end Go.Proofs.YtgccjefbedpmpaaGreatDoor

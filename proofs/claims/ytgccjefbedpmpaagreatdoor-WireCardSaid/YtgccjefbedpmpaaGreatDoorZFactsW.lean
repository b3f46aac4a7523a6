import Derived.Test.YtgccjefbedpmpaaGreatDoorRows
import Derived.JoinedOf
namespace Go.Proofs.YtgccjefbedpmpaaGreatDoor
theorem and_w {a b : Bool} (ha : a = true) (hb : b = true) : (a && b) = true := by rw [ha, hb]; rfl
theorem kw0 : (Rows.wireRow.wf (OpenSpec.ofChange Rows.wireSpec) : Bool) = true := by kernel_rfl
theorem kw1 : (laidOutB Tryz.prog : Bool) = true := by kernel_rfl
theorem kw2 : (mapsRowed Tryz.prog : Bool) = true := by kernel_rfl
theorem kw3 : (Tryz.f9.params.all (Tryz.prog.readableRec ·) : Bool) = true := by kernel_rfl
theorem kw4 : (namedTie Tryz.prog Rows.wireRow.named Rows.wireSpec.vars : Bool) = true := by kernel_rfl
theorem kw5 : ((Rows.wireRow.stops == []) : Bool) = true := by kernel_rfl
theorem kw6 : ((Tryz.prog.stops == []) : Bool) = true := by kernel_rfl
theorem kw7 : ((Rows.wireRow.knobs == []) : Bool) = true := by kernel_rfl
theorem kw8 : ((Tryz.prog.stopKnobs == []) : Bool) = true := by kernel_rfl
theorem kw9 : ((Rows.wireRow.inPlace == Tryz.prog.inPlace 9) : Bool) = true := by kernel_rfl
theorem kw10 : ((Rows.wireRow.unfollowed == Tryz.prog.unfollowed 9) : Bool) = true := by kernel_rfl
theorem kw11 : ((Rows.wireRow.recurses == Tryz.prog.recurses 9) : Bool) = true := by kernel_rfl
theorem kw12 : ((Rows.wireRow.named == Tryz.prog.varsNamed 9) : Bool) = true := by kernel_rfl
theorem kw13 : ((Rows.wireRow.maps == (Tryz.f9.params.toList ++ Rows.wireSpec.plain.varTypes Tryz.prog).any (Tryz.prog.mapsRec ·)) : Bool) = true := by kernel_rfl
theorem kw14 : ((Rows.wireRow.ifaces == (Tryz.f9.params.toList ++ Rows.wireSpec.plain.varTypes Tryz.prog).any (Tryz.prog.ifacesRec ·)) : Bool) = true := by kernel_rfl
theorem kw15 : ((Rows.wireRow.mapsOut == Tryz.prog.mapsAmong Tryz.f9.resultTypes.toList) : Bool) = true := by kernel_rfl
theorem kw16 : ((Rows.wireRow.loops == (Tryz.f9.params.toList ++ Rows.wireSpec.plain.varTypes Tryz.prog).any (Tryz.prog.loopsFrom ·)) : Bool) = true := by kernel_rfl
theorem kw17 : ((Rows.wireRow.wideKeys == (Tryz.f9.params.toList ++ Rows.wireSpec.plain.varTypes Tryz.prog ++ Tryz.f9.resultTypes.toList).any (Tryz.prog.wideKeysFrom ·)) : Bool) = true := by kernel_rfl
theorem kw18 : (Rows.wireSpec.vars.all (Tryz.prog.varReadable ·) : Bool) = true := by kernel_rfl
theorem kw19 : (Tryz.f9.resultTypes.all (fun t => Tryz.prog.readableRec t && decide (t < Tryz.prog.types.size)) : Bool) = true := by kernel_rfl
theorem kw20 : ((Rows.wireRow.ifacesOut == Tryz.f9.resultTypes.toList.any (Tryz.prog.ifacesRec ·)) : Bool) = true := by kernel_rfl
theorem kw21 : ((Rows.wireRow.loopsOut == Tryz.f9.resultTypes.toList.any (Tryz.prog.loopsFrom ·)) : Bool) = true := by kernel_rfl
theorem kw22 : ((Rows.wireRow.plainKeys == Tryz.prog.plainKeys) : Bool) = true := by kernel_rfl
theorem kw23 : (Rows.wireRow.shortTexts.isNone : Bool) = true := by kernel_rfl
theorem kw24 : (Tryz.prog.stopsHeard : Bool) = true := by kernel_rfl
theorem kw25 : (Tryz.prog.mayEnter : Bool) = true := by kernel_rfl
theorem kw26 : ((Rows.wireRow.lifted == Tryz.prog.liftsFinal) : Bool) = true := by kernel_rfl
theorem kw27 : ((Tryz.prog.make == some Rows.wireRow.make) : Bool) = true := by kernel_rfl
theorem kw28 : ((Rows.wireRow.kinds == (if Rows.wireRow.domain.isEmpty then [] else Tryz.f9.params.toList.map fun t => match Tryz.prog.underlying t with | some (.int k) => some k | _ => none)) : Bool) = true := by kernel_rfl
theorem kw29 : ((Rows.wireRow.pinned == Rows.wireRow.pinnedBy) : Bool) = true := by kernel_rfl
theorem kw30 : ((Rows.wireRow.veiled == (Tryz.f9.params.toList ++ Rows.wireSpec.plain.varTypes Tryz.prog ++ Tryz.f9.resultTypes.toList).any (Tryz.prog.veiledRec ·)) : Bool) = true := by kernel_rfl
theorem kw31 : (Rows.wireRow.veiledFits Tryz.prog Tryz.f9.params.toList (Tryz.f9.params.toList ++ Rows.wireSpec.plain.varTypes Tryz.prog ++ Tryz.f9.resultTypes.toList) : Bool) = true := by kernel_rfl
end Go.Proofs.YtgccjefbedpmpaaGreatDoor

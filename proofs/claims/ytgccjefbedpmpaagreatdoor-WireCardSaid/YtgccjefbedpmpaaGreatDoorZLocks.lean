import Derived.Test.YtgccjefbedpmpaaGreatDoorZWords
import Derived.Conc.RwLib
import Derived.Conc.MuLone
import Derived.KernelRfl
namespace Go.Proofs.YtgccjefbedpmpaaGreatDoor
/-- The numbers of the lock's functions and types. -/
abbrev muLink : Go.Conc.Locks.MuLink := { lock := 49, unlock := 50, ilock := 90, iunlock := 91, lockSlow := 160, unlockSlow := 163, disable := 156, enable := 158, acquire := 159, relMerge := 161, cas32 := 157, add32 := 162, tMutex := 112, tIMutex := 110, tPMutex := 165, tPIMutex := 221, tPI32 := 223, tUP := 225, tNoCopy := 108, tU32 := 39 }
theorem muLib : Go.Conc.Locks.MuLib Tryz.prog muLink :=
  ⟨Tryz.func49, Tryz.func50, Tryz.func90, Tryz.func91, Tryz.func156, Tryz.func158, Tryz.func159, Tryz.func161, Tryz.func157, Tryz.func162, Tryz.underlying110, Tryz.runUnderlying110, Tryz.sizeOf110, Tryz.isAgg110, Tryz.zeroValue110, Tryz.underlying112, Tryz.runUnderlying112, Tryz.sizeOf112, Tryz.isAgg112, Tryz.zeroValue112, Tryz.underlying165, Tryz.runUnderlying165, Tryz.sizeOf165, Tryz.isAgg165, Tryz.zeroValue165, Tryz.underlying221, Tryz.runUnderlying221, Tryz.sizeOf221, Tryz.isAgg221, Tryz.zeroValue221, Tryz.underlying223, Tryz.runUnderlying223, Tryz.sizeOf223, Tryz.isAgg223, Tryz.zeroValue223, Tryz.underlying225, Tryz.runUnderlying225, Tryz.sizeOf225, Tryz.isAgg225, Tryz.zeroValue225, Tryz.underlying108, Tryz.runUnderlying108, Tryz.sizeOf108, Tryz.isAgg108, Tryz.zeroValue108, Tryz.underlying21, Tryz.runUnderlying21, Tryz.sizeOf21, Tryz.isAgg21, Tryz.zeroValue21, (by kernel_rfl)⟩
end Go.Proofs.YtgccjefbedpmpaaGreatDoor

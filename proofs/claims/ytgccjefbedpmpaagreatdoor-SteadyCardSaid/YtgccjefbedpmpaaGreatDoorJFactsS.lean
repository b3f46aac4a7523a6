import Derived.Test.YtgccjefbedpmpaaGreatDoorRows
import Derived.JoinedOf
import Derived.Test.YtgccjefbedpmpaaGreatDoorCards
namespace Go.Proofs.YtgccjefbedpmpaaGreatDoor
open Go
set_option maxRecDepth 100000
set_option maxHeartbeats 8000000
theorem and_v {a b:Bool} (ha:a=true) (hb:b=true):(a&&b)=true:=by rw [ha,hb];rfl
theorem kv1:(laidOutB Tryz.prog:Bool)=true:=by kernel_rfl
theorem kv2:(mapsRowed Tryz.prog:Bool)=true:=by kernel_rfl
theorem kv3:(Tryz.f8.params.all (Tryz.prog.readableRec ·):Bool)=true:=by kernel_rfl
theorem kv5:((Rows.steadyRow.stops==[]):Bool)=true:=by kernel_rfl
theorem kv6:((Tryz.prog.stops==[]):Bool)=true:=by kernel_rfl
theorem kv7:((Rows.steadyRow.knobs==[]):Bool)=true:=by kernel_rfl
theorem kv8:((Tryz.prog.stopKnobs==[]):Bool)=true:=by kernel_rfl
theorem kv9:((Rows.steadyRow.inPlace==Tryz.prog.inPlace 8):Bool)=true:=by kernel_rfl
theorem kv10:((Rows.steadyRow.unfollowed==Tryz.prog.unfollowed 8):Bool)=true:=by kernel_rfl
theorem kv11:((Rows.steadyRow.recurses==Tryz.prog.recurses 8):Bool)=true:=by kernel_rfl
theorem kv12:((Rows.steadyRow.named==Tryz.prog.varsNamed 8):Bool)=true:=by kernel_rfl
theorem kv15:((Rows.steadyRow.mapsOut==Tryz.prog.mapsAmong Tryz.f8.resultTypes.toList):Bool)=true:=by kernel_rfl
theorem kv19:(Tryz.f8.resultTypes.all (fun t=>Tryz.prog.readableRec t&&decide (t < Tryz.prog.types.size)):Bool)=true:=by kernel_rfl
theorem kv20:((Rows.steadyRow.ifacesOut==Tryz.f8.resultTypes.toList.any (Tryz.prog.ifacesRec ·)):Bool)=true:=by kernel_rfl
theorem kv21:((Rows.steadyRow.loopsOut==Tryz.f8.resultTypes.toList.any (Tryz.prog.loopsFrom ·)):Bool)=true:=by kernel_rfl
theorem kv22:((Rows.steadyRow.plainKeys==Tryz.prog.plainKeys):Bool)=true:=by kernel_rfl
theorem kv23:(Rows.steadyRow.shortTexts.isNone:Bool)=true:=by kernel_rfl
theorem kv24:(Tryz.prog.stopsHeard:Bool)=true:=by kernel_rfl
theorem kv25:(Tryz.prog.mayEnter:Bool)=true:=by kernel_rfl
theorem kv26:((Rows.steadyRow.lifted==Tryz.prog.liftsFinal):Bool)=true:=by kernel_rfl
theorem kv27:((Tryz.prog.make==some Rows.steadyRow.make):Bool)=true:=by kernel_rfl
theorem kv28:((Rows.steadyRow.kinds==(if Rows.steadyRow.domain.isEmpty then [] else Tryz.f8.params.toList.map fun t=>match Tryz.prog.underlying t with | some (.int k)=>some k | _=>none)):Bool)=true:=by kernel_rfl
theorem kv29:((Rows.steadyRow.pinned==Rows.steadyRow.pinnedBy):Bool)=true:=by kernel_rfl
theorem goesNone:Tryz.prog.funcs.toList.all (fun fn=>!fn.goes)=true:=by kernel_rfl
theorem goes_at {g:Nat} {fn:Func} (h:Tryz.prog.funcs[g]?=some fn):fn.goes=false:=by
 have hm:fn∈Tryz.prog.funcs.toList:=Array.mem_toList_iff.2 (Array.mem_of_getElem? h)
 simpa using List.all_eq_true.1 goesNone fn hm
theorem goes_any (f:FuncId):Tryz.prog.goes f=false:=by
 unfold Program.goes
 have h1:((Tryz.prog.closure f).any fun g=>(Tryz.prog.funcs[g]?).any Func.goes)=false:=by
  rw [List.any_eq_false]
  intro g _
  cases h:Tryz.prog.funcs[g]? with
  | none=>simp
  | some fn=>simp [goes_at h]
 have h2:Tryz.prog.funcs.any Func.goes=false:=by
  rw [Array.any_eq_false]
  intro i hi
  simp [goes_at (Array.getElem?_eq_getElem hi)]
 rw [h1,h2,Bool.and_false,Bool.or_false]
theorem goes_from (s:String):Tryz.prog.goesFrom s=false:=by
 unfold Program.goesFrom
 generalize Tryz.prog.funcNamed s=o
 cases o with
 | none=>rfl
 | some f=>rw [Option.any_some,goes_any]
end Go.Proofs.YtgccjefbedpmpaaGreatDoor

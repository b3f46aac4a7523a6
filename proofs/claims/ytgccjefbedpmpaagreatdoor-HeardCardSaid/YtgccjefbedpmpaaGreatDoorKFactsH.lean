import Derived.Test.YtgccjefbedpmpaaGreatDoorRows
import Derived.JoinedOf
import Derived.Test.YtgccjefbedpmpaaGreatDoorCards
namespace Go.Proofs.YtgccjefbedpmpaaGreatDoor
open Go
set_option maxRecDepth 100000
set_option maxHeartbeats 8000000
theorem and_v {a b:Bool} (ha:a=true) (hb:b=true):(a&&b)=true:=by rw [ha,hb];rfl
theorem kv1:(laidOutB Tryz.prog:Bool)=true:=by kernel_rfl
theorem kv2:(mapsRowed Tryz.prog:Bool)=true:=by kernel_rfl
theorem kv3:(Tryz.f13.params.all (Tryz.prog.readableRec ·):Bool)=true:=by kernel_rfl
theorem kv5:((Rows.heardRow.stops==[]):Bool)=true:=by kernel_rfl
theorem kv6:((Tryz.prog.stops==[]):Bool)=true:=by kernel_rfl
theorem kv7:((Rows.heardRow.knobs==[]):Bool)=true:=by kernel_rfl
theorem kv8:((Tryz.prog.stopKnobs==[]):Bool)=true:=by kernel_rfl
theorem kv9:((Rows.heardRow.inPlace==Tryz.prog.inPlace 13):Bool)=true:=by kernel_rfl
theorem kv10:((Rows.heardRow.unfollowed==Tryz.prog.unfollowed 13):Bool)=true:=by kernel_rfl
theorem kv11:((Rows.heardRow.recurses==Tryz.prog.recurses 13):Bool)=true:=by kernel_rfl
theorem kv12:((Rows.heardRow.named==Tryz.prog.varsNamed 13):Bool)=true:=by kernel_rfl
theorem kv15:((Rows.heardRow.mapsOut==Tryz.prog.mapsAmong Tryz.f13.resultTypes.toList):Bool)=true:=by kernel_rfl
theorem kv19:(Tryz.f13.resultTypes.all (fun t=>Tryz.prog.readableRec t&&decide (t < Tryz.prog.types.size)):Bool)=true:=by kernel_rfl
theorem kv20:((Rows.heardRow.ifacesOut==Tryz.f13.resultTypes.toList.any (Tryz.prog.ifacesRec ·)):Bool)=true:=by kernel_rfl
theorem kv21:((Rows.heardRow.loopsOut==Tryz.f13.resultTypes.toList.any (Tryz.prog.loopsFrom ·)):Bool)=true:=by kernel_rfl
theorem kv22:((Rows.heardRow.plainKeys==Tryz.prog.plainKeys):Bool)=true:=by kernel_rfl
theorem kv23:(Rows.heardRow.shortTexts.isNone:Bool)=true:=by kernel_rfl
theorem kv24:(Tryz.prog.stopsHeard:Bool)=true:=by kernel_rfl
theorem kv25:(Tryz.prog.mayEnter:Bool)=true:=by kernel_rfl
theorem kv26:((Rows.heardRow.lifted==Tryz.prog.liftsFinal):Bool)=true:=by kernel_rfl
theorem kv27:((Tryz.prog.make==some Rows.heardRow.make):Bool)=true:=by kernel_rfl
theorem kv28:((Rows.heardRow.kinds==(if Rows.heardRow.domain.isEmpty then [] else Tryz.f13.params.toList.map fun t=>match Tryz.prog.underlying t with | some (.int k)=>some k | _=>none)):Bool)=true:=by kernel_rfl
theorem kv29:((Rows.heardRow.pinned==Rows.heardRow.pinnedBy):Bool)=true:=by kernel_rfl
theorem goesNone:Tryz.prog.funcs.toList.all (fun fn=>!fn.goes)=true:=by kernel_rfl
theorem goes_at {g:Nat} {fn:Func} (h:Tryz.prog.funcs[g]?=some fn):fn.goes=false:=by
 have hm:fn∈Tryz.prog.funcs.toList:=Array.mem_toList_iff.2 (Array.mem_of_getElem? h)
 simpa using List.all_eq_true.1 goesNone fn hm
theorem goes_any (f:FuncId):Tryz.prog.goes f=false:=by
 unfold Program.goes
 have h1:((Tryz.prog.closure f).any fun g=>(Tryz.prog.funcs[g]?).any Func.goes)=false:=by
  rw [List.any_eq_false]
  intro g _
  cases h:Tryz.prog.funcs[g]? with
  | none=>simp
  | some fn=>simp [goes_at h]
 have h2:Tryz.prog.funcs.any Func.goes=false:=by
  rw [Array.any_eq_false]
  intro i hi
  simp [goes_at (Array.getElem?_eq_getElem hi)]
 rw [h1,h2,Bool.and_false,Bool.or_false]
theorem goes_from (s:String):Tryz.prog.goesFrom s=false:=by
 unfold Program.goesFrom
 generalize Tryz.prog.funcNamed s=o
 cases o with
 | none=>rfl
 | some f=>rw [Option.any_some,goes_any]
end Go.Proofs.YtgccjefbedpmpaaGreatDoor

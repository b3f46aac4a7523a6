import Derived.Test.YtgccjefbedpmpaaGreatDoorCards
import Derived.Test.YtgccjefbedpmpaaGreatDoorTie
import Derived.WalkKit
import Derived.ProofKit
import Derived.OpenShut
import Derived.Deep.DeepHandedRow
import Derived.Deep.DeepWitnessRowRef
import Derived.Lib.LaidTab
import Derived.LaidHandle
import Derived.LaidSub
namespace Go.Proofs.YtgccjefbedpmpaaGreatDoor
open Go.ChangeShapes Go.WideShapes Go.ChangeAt Go.RowKit
set_option maxRecDepth 100000
set_option maxHeartbeats 8000000
theorem own:ownKnob Tryz.prog.godebug=none:=by kernel_rfl
def tabCells:DataW Unit→Array Value
 | .agg ps=>(ps.map fun | .lit (.int k z)=>Value.int k z|_=>.nilFunc).toArray
 | _=>#[]
def errText:DataW Unit→ByteArray
 | .iface _ (.ptr (.agg [.lit (.string bs)]))=>⟨bs.toArray⟩
 | _=>⟨#[]⟩
def errBlock (d:DataW Unit):Obj:=.cells #[.string (errText d)] 454
def laidWorld (P:Program) (os:Os):World:=
 let N:=(World.settled P os).heap.size
 let w0:=World.holding P os ⟨#[errBlock Rows.laid_skein_fault_Short,errBlock Rows.laid_skein_fault_More,errBlock Rows.laid_skein_fault_Long,errBlock Rows.laid_skein_fault_Check,errBlock Rows.laid_skein_fault_Bounds,errBlock Rows.laid_skein_fault_Own,errBlock Rows.laid_skein_fault_Order,errBlock Rows.laid_skein_fault_Extra,errBlock Rows.laid_skein_fault_Count,errBlock Rows.laid_skein_fault_Other],#[],[]⟩
 let put (h:Array Obj) (g:Nat) (cs:Array Value):Array Obj:=h.modify g fun
  | .cells _ t frozen=>.cells cs t frozen
  | o=>o
 let h0:=put w0.heap 1 #[.iface 330 (.agg #[.pointer (some ⟨P.globals.size,123,none⟩)])]
 let h1:=put h0 13 (tabCells Rows.laid_math_bits_deBruijn32tab)
 let h2:=put h1 14 (tabCells Rows.laid_math_bits_deBruijn64tab)
 let h3:=put h2 12 (tabCells Rows.laid_internal_strconv_uint64pow10)
 let h4:=put h3 11 (tabCells Rows.laid_skein_sha_roundWords)
 let h5:=put h4 2 #[.iface 435 (.pointer (some ⟨N+0,0,none⟩))]
 let h6:=put h5 8 #[.iface 435 (.pointer (some ⟨N+1,0,none⟩))]
 let h7:=put h6 10 #[.iface 435 (.pointer (some ⟨N+2,0,none⟩))]
 let h8:=put h7 3 #[.iface 435 (.pointer (some ⟨N+3,0,none⟩))]
 let h9:=put h8 4 #[.iface 435 (.pointer (some ⟨N+4,0,none⟩))]
 let h10:=put h9 5 #[.iface 435 (.pointer (some ⟨N+5,0,none⟩))]
 let h11:=put h10 9 #[.iface 435 (.pointer (some ⟨N+6,0,none⟩))]
 let h12:=put h11 6 #[.iface 435 (.pointer (some ⟨N+7,0,none⟩))]
 let h13:=put h12 7 #[.iface 435 (.pointer (some ⟨N+8,0,none⟩))]
 let h14:=put h13 0 #[.iface 435 (.pointer (some ⟨N+9,0,none⟩))]
 { w0 with heap:=h14 }
theorem laid_met (os:Os) (args:Array Value):laidMetH Tryz.prog Rows.sumsRow.laid ((laidWorld Tryz.prog os).forCall (fun _ _=>0) ⟨#[],args,[]⟩).memory:=
 laidMetH_of_parts (laidMet_of_run' 10 (by kernel_rfl) (by kernel_rfl)) (by kernel_rfl)
end Go.Proofs.YtgccjefbedpmpaaGreatDoor

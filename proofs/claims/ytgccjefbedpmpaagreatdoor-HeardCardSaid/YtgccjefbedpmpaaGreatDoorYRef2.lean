import Derived.Test.YtgccjefbedpmpaaGreatDoorYDel
namespace Go.Proofs.YtgccjefbedpmpaaGreatDoor
open Go.RowKit
set_option maxRecDepth 100000
set_option maxHeartbeats 8000000
theorem OwnO.at0 {w:World} {B g cap n:Nat} {os:List Opn} (h:OwnO w B (.slice (some (Ad g 0)) n cap) os):OpsAt w g 0 os:=by
 rcases OwnO.is h with rfl|⟨g',off',e,k⟩
 ·intro i hi;cases hi
 ·cases e;exact k

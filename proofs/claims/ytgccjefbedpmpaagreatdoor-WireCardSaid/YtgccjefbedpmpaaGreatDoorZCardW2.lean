import Derived.Test.YtgccjefbedpmpaaGreatDoorGRowW
import Derived.Test.YtgccjefbedpmpaaGreatDoorGGoes
import Derived.Test.YtgccjefbedpmpaaGreatDoorGWire1
namespace Go.Proofs.YtgccjefbedpmpaaGreatDoor
open Go.ChangeShapes Go.WideShapes Go.ChangeAt Go.RowKit
theorem cardW (hX : WireFact) : Rows.WireCardSaid :=
  Claim7.holds_tied_plain_at .later [] _ _ _ _ (saidW hX) (fun _ h => by cases h) hwW (fun _ h => by cases h) wire_row_tie rfl ⟨rfl, rfl⟩ hmW rfl plainW hgW
theorem wire_card : Rows.WireCardSaid := cardW wire_any
end Go.Proofs.YtgccjefbedpmpaaGreatDoor

import Derived.Test.YtgccjefbedpmpaaGreatDoorGRow
import Derived.Test.YtgccjefbedpmpaaGreatDoorGGoes
import Derived.Test.YtgccjefbedpmpaaGreatDoorZSums
namespace Go.Proofs.YtgccjefbedpmpaaGreatDoor
open Go.ChangeShapes Go.WideShapes Go.ChangeAt Go.RowKit
theorem cardS (hX : SumsFact) : Rows.SumsCardSaid :=
  Claim7.holds_tied_plain_at .later [] _ _ _ _ (saidS hX) (fun _ h => by cases h) hwS (fun _ h => by cases h) sums_row_tie rfl ⟨rfl, rfl⟩ hmS rfl plainS hgS
theorem sums_card : Rows.SumsCardSaid := cardS sums_any
end Go.Proofs.YtgccjefbedpmpaaGreatDoor

import Derived.Test.YtgccjefbedpmpaaGreatDoorGRowF
import Derived.Test.YtgccjefbedpmpaaGreatDoorGGoes
import Derived.Test.YtgccjefbedpmpaaGreatDoorZFrames
namespace Go.Proofs.YtgccjefbedpmpaaGreatDoor
open Go.ChangeShapes Go.WideShapes Go.ChangeAt Go.RowKit
theorem cardF (hX : FramesFact) : Rows.FramesCardSaid :=
  Claim7.holds_tied_plain_at .later [] _ _ _ _ (saidF hX) (fun _ h => by cases h) hwF (fun _ h => by cases h) frames_row_tie rfl ⟨rfl, rfl⟩ hmF rfl plainF hgF
theorem frames_card : Rows.FramesCardSaid := cardF frames_any
end Go.Proofs.YtgccjefbedpmpaaGreatDoor

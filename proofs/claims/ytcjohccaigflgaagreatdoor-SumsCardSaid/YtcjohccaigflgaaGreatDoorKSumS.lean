import Derived.Test.YtcjohccaigflgaaGreatDoorKSum
import Derived.Test.YtcjohccaigflgaaGreatDoorLent
namespace Go.Proofs.YtcjohccaigflgaaGreatDoor
open Go.RowKit
/-- The n-th byte of the digest of s. -/
def dig (s : ByteArray) (n : Nat) : Int := outB (blks KK (mB (padM s)) RV (nblk s.size)) n
theorem ksumS (s : ByteArray) (hs : s.size ≤ 140737488351232) (g : Nat) (w : World) (hg : 10 < w.heap.size) (hK : ∀ j, j < 64 → w.cell? ⟨10, j, none⟩ = some (.int .u32 (KK j))) (hL : RowIs w g 5 (s.size + 8) (lentC s (s.size + 8))) :
    Calls Tryz.prog 52 #[.slice (some ⟨g, 0, none⟩) s.size (s.size + 8)] w fun e w' => e = .returned (.agg (rowOf 32 fun n => .int .u8 (dig s n))) ∧ Below w.heap.size w w' := by
  have e : s.size = 64 * (s.size / 64) + s.size % 64 := by omega
  have h := ksum_any g 0 (s.size + 8) (s.size / 64) (s.size % 64) KK (mB s) w hg hK (fun i => by unfold mB; have := (s.data.toList[i]?.getD 0).toNat_lt; omega) (fun i hi => by
    rw [Nat.zero_add, hL.cell (by omega)]; unfold lentC; rw [if_pos (by omega)]; rfl) hL.lt (by omega) (by omega) (by omega) (by omega)
  rw [← e] at h
  refine h.mono ?_
  rintro x w' ⟨rfl, hb⟩
  exact ⟨by rw [rowOf_congr fun j hj => by rw [sum_same e (fun _ _ => rfl) j hj]]; rfl, hb⟩
end Go.Proofs.YtcjohccaigflgaaGreatDoor

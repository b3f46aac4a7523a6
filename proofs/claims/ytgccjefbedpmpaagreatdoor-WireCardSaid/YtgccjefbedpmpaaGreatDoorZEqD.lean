import Derived.Test.YtgccjefbedpmpaaGreatDoorZWords
import Derived.ChangeKeysEq
namespace Go.Proofs.YtgccjefbedpmpaaGreatDoor
open Go.RowKit
theorem infoU8e : (Tryz.prog.info? 5).map (fun i => i.size) = some 1 := by kernel_rfl
theorem cellsU8 : Tryz.prog.cellsOf 5 = 1 := by kernel_rfl
theorem eqU8 (d : Nat) (a x : Int) (W : World) : (Op.equalIn (d + 1) 5 (.int .u8 a) (.int .u8 x)).run Tryz.prog W = .ok (a == x) W := by
  simp [Op.equalIn, underlying, Tryz.underlying5]
theorem partU8 (xs : Array Value) (j : Nat) (v : Value) (h : xs[j]? = some v) (W : World) : (part 5 xs j).run Tryz.prog W = .ok v W := by
  simp [part, isAgg, underlying, Tryz.underlying5, h]
theorem eqDigD (d : Nat) (a b c x y z : Int) (W : World) : (Op.equalIn (d + 1 + 1) 50 (.agg #[.int .u8 a, .int .u8 b, .int .u8 c]) (.agg #[.int .u8 x, .int .u8 y, .int .u8 z])).run Tryz.prog W = .ok (if a = x then if b = y then decide (c = z) else false else false) W := by
  obtain ⟨i, hi, hs⟩ := Option.map_eq_some_iff.1 infoU8e
  rw [run_equalIn_array W (d + 1) _ _ Tryz.underlying50 hi, cellsU8]
  have p1 := partU8 #[.int .u8 a, .int .u8 b, .int .u8 c] 0 _ rfl
  have p2 := partU8 #[.int .u8 a, .int .u8 b, .int .u8 c] 1 _ rfl
  have p3 := partU8 #[.int .u8 a, .int .u8 b, .int .u8 c] 2 _ rfl
  have p4 := partU8 #[.int .u8 x, .int .u8 y, .int .u8 z] 0 _ rfl
  have p5 := partU8 #[.int .u8 x, .int .u8 y, .int .u8 z] 1 _ rfl
  have p6 := partU8 #[.int .u8 x, .int .u8 y, .int .u8 z] 2 _ rfl
  simp [Op.eqItems, List.range_succ, eqU8, p1, p2, p3, p4, p5, p6, Result.andThen]
  by_cases h1 : a = x <;> by_cases h2 : b = y <;> by_cases h3 : c = z <;> simp [h1, h2, h3]
theorem eqDigG (a b c x y z : Int) (W : World) : (Op.equalIn 10000 50 (.agg #[.int .u8 a, .int .u8 b, .int .u8 c]) (.agg #[.int .u8 x, .int .u8 y, .int .u8 z])).run Tryz.prog W = .ok (if a = x then if b = y then decide (c = z) else false else false) W := eqDigD 9998 a b c x y z W
theorem eqArrD (d : Nat) (a b c x y z : Int) (W : World) : (Op.equalIn (d + 1 + 1) 49 (.agg #[.int .u8 a, .int .u8 b, .int .u8 c]) (.agg #[.int .u8 x, .int .u8 y, .int .u8 z])).run Tryz.prog W = .ok (if a = x then if b = y then decide (c = z) else false else false) W := by
  obtain ⟨i, hi, hs⟩ := Option.map_eq_some_iff.1 infoU8e
  rw [run_equalIn_array W (d + 1) _ _ Tryz.underlying49 hi, cellsU8]
  have p1 := partU8 #[.int .u8 a, .int .u8 b, .int .u8 c] 0 _ rfl
  have p2 := partU8 #[.int .u8 a, .int .u8 b, .int .u8 c] 1 _ rfl
  have p3 := partU8 #[.int .u8 a, .int .u8 b, .int .u8 c] 2 _ rfl
  have p4 := partU8 #[.int .u8 x, .int .u8 y, .int .u8 z] 0 _ rfl
  have p5 := partU8 #[.int .u8 x, .int .u8 y, .int .u8 z] 1 _ rfl
  have p6 := partU8 #[.int .u8 x, .int .u8 y, .int .u8 z] 2 _ rfl
  simp [Op.eqItems, List.range_succ, eqU8, p1, p2, p3, p4, p5, p6, Result.andThen]
  by_cases h1 : a = x <;> by_cases h2 : b = y <;> by_cases h3 : c = z <;> simp [h1, h2, h3]
theorem eqArrG (a b c x y z : Int) (W : World) : (Op.equalIn 10000 49 (.agg #[.int .u8 a, .int .u8 b, .int .u8 c]) (.agg #[.int .u8 x, .int .u8 y, .int .u8 z])).run Tryz.prog W = .ok (if a = x then if b = y then decide (c = z) else false else false) W := eqArrD 9998 a b c x y z W
end Go.Proofs.YtgccjefbedpmpaaGreatDoor

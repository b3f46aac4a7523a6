import Derived.Shelf.LaysM
import Derived.Shelf.Strconv.Itoa3
import Derived.Test.YtgccjefbedpmpaaGreatDoorGMem
namespace Go.Proofs.YtgccjefbedpmpaaGreatDoor
open Go.Shelf Go.RowKit
def itoa_ren : Go.Shelf.Ren := ⟨fun | 171 => 278 | 243 => 317 | 246 => 330 | 283 => 335 | 284 => 336 | 285 => 337 | 286 => 338 | 129 => 302 | 317 => 339 | 318 => 340 | 319 => 341 | 320 => 342 | 337 => 343 | 338 => 344 | n => n, fun | 3 => 3 | 9 => 9 | 2 => 2 | 4 => 4 | 171 => 426 | 0 => 0 | 53 => 41 | 37 => 59 | 5 => 5 | 173 => 428 | 212 => 432 | 51 => 39 | 20 => 20 | 213 => 433 | 46 => 251 | 232 => 137 | 233 => 434 | n => n, fun | 17 => 12 | 18 => 13 | 19 => 14 | n => n⟩
theorem itoa_lays : Go.Proofs.LaysM.n171 Tryz.prog itoa_ren := {
  mixed := by kernel_rfl
  f129 := Tryz.func302.trans (congrArg some (by kernel_rfl))
  f171 := Tryz.func278.trans (congrArg some (by kernel_rfl))
  f243 := Tryz.func317.trans (congrArg some (by kernel_rfl))
  f246 := Tryz.func330.trans (congrArg some (by kernel_rfl))
  f283 := Tryz.func335.trans (congrArg some (by kernel_rfl))
  f284 := Tryz.func336.trans (congrArg some (by kernel_rfl))
  f285 := Tryz.func337.trans (congrArg some (by kernel_rfl))
  f286 := Tryz.func338.trans (congrArg some (by kernel_rfl))
  f317 := Tryz.func339.trans (congrArg some (by kernel_rfl))
  f318 := Tryz.func340.trans (congrArg some (by kernel_rfl))
  f319 := Tryz.func341.trans (congrArg some (by kernel_rfl))
  f320 := Tryz.func342.trans (congrArg some (by kernel_rfl))
  f337 := Tryz.func343.trans (congrArg some (by kernel_rfl))
  f338 := Tryz.func344.trans (congrArg some (by kernel_rfl))
  t0 := Tryz.underlying0
  a0 := Tryz.isAgg0
  z0 := Tryz.sizeOf0
  v0 := Tryz.zeroValue0
  t2 := Tryz.underlying2
  a2 := Tryz.isAgg2
  z2 := Tryz.sizeOf2
  v2 := Tryz.zeroValue2
  t3 := Tryz.underlying3
  a3 := Tryz.isAgg3
  z3 := Tryz.sizeOf3
  v3 := Tryz.zeroValue3
  t4 := Tryz.underlying4
  a4 := Tryz.isAgg4
  z4 := Tryz.sizeOf4
  v4 := Tryz.zeroValue4
  t5 := Tryz.underlying5
  a5 := Tryz.isAgg5
  z5 := Tryz.sizeOf5
  v5 := Tryz.zeroValue5
  t9 := Tryz.underlying9
  a9 := Tryz.isAgg9
  z9 := Tryz.sizeOf9
  v9 := Tryz.zeroValue9
  t20 := Tryz.underlying20
  a20 := Tryz.isAgg20
  z20 := Tryz.sizeOf20
  v20 := Tryz.zeroValue20
  t37 := Tryz.underlying59
  a37 := Tryz.isAgg59
  z37 := Tryz.sizeOf59
  v37 := Tryz.zeroValue59
  t46 := Tryz.underlying251
  a46 := Tryz.isAgg251
  z46 := Tryz.sizeOf251
  v46 := Tryz.zeroValue251
  t51 := Tryz.underlying39
  a51 := Tryz.isAgg39
  z51 := Tryz.sizeOf39
  v51 := Tryz.zeroValue39
  t53 := Tryz.underlying41
  a53 := Tryz.isAgg41
  z53 := Tryz.sizeOf41
  v53 := Tryz.zeroValue41
  t171 := Tryz.underlying426
  a171 := Tryz.isAgg426
  z171 := Tryz.sizeOf426
  v171 := Tryz.zeroValue426
  t173 := Tryz.underlying428
  a173 := Tryz.isAgg428
  z173 := Tryz.sizeOf428
  v173 := Tryz.zeroValue428
  t212 := Tryz.underlying432
  a212 := Tryz.isAgg432
  z212 := Tryz.sizeOf432
  v212 := Tryz.zeroValue432
  t213 := Tryz.underlying433
  a213 := Tryz.isAgg433
  z213 := Tryz.sizeOf433
  t232 := Tryz.underlying137
  a232 := Tryz.isAgg137
  z232 := Tryz.sizeOf137
  v232 := Tryz.zeroValue137
  t233 := Tryz.underlying434
  a233 := Tryz.isAgg434
  z233 := Tryz.sizeOf434
  v233 := Tryz.zeroValue434
  g17 := by kernel_rfl
  g18 := by kernel_rfl
  g19 := by kernel_rfl
  i0 := by kernel_rfl
  i2 := by kernel_rfl
  i3 := by kernel_rfl
  i4 := by kernel_rfl
  i5 := by kernel_rfl
  i9 := by kernel_rfl
  i20 := by kernel_rfl
  i37 := by kernel_rfl
  i46 := by kernel_rfl
  i51 := by kernel_rfl
  i53 := by kernel_rfl
  i171 := by kernel_rfl
  i173 := by kernel_rfl
  i212 := by kernel_rfl
  i232 := by kernel_rfl
  i233 := by kernel_rfl
  m17 := by kernel_rfl
  m18 := by kernel_rfl
  m19 := by kernel_rfl }
/-- The table of tens lies. -/
def Tens (w : World) : Prop := ∃ t f, w.heap[12]? = some (.cells (Lib.pow10Tab.map fun z => Value.int .u64 z).toArray t f)
theorem Tens.tab {w : World} (h : Tens w) (s : String) (hs : Tryz.prog.globalNamed s = some 12) : Lib.TabIs Tryz.prog w s .u64 Lib.pow10Tab := by
  obtain ⟨t, f, h⟩ := h
  unfold Lib.TabIs World.var?
  rw [hs]
  show (match w.heap[12]? with | some (.cells cs _ _) => some cs | _ => none) = _
  rw [h]
theorem Tens.below {w w' : World} (h : Tens w) (hb : Below w.heap.size w w') : Tens w' := by
  obtain ⟨t, f, h⟩ := h
  exact ⟨t, f, (hb.block _ (Array.getElem?_eq_some_iff.1 h).1).trans h⟩
theorem itoa_any (n : Int) (h0 : -9223372036854775808 ≤ n) (h1 : n ≤ 9223372036854775807) (w : World) (h : Tens w) : Calls Tryz.prog 278 #[.int .i64 n] w fun e w' => (∃ s, e = .returned (.string s)) ∧ Below w.heap.size w w' := by
  refine (Go.Proofs.Any.strconv_Itoa itoa_lays n h0 h1 w (h.tab _ (by kernel_rfl))).mono ?_
  rintro e w' ⟨rfl, k, os, rfl⟩
  exact ⟨⟨_, rfl⟩, ⟨rfl, rfl, rfl, by show w.heap.size ≤ (w.heap ++ os).size; rw [Array.size_append]; omega, fun i hi => by show (w.heap ++ os)[i]? = _; rw [Array.getElem?_append_left hi]⟩⟩
end Go.Proofs.YtgccjefbedpmpaaGreatDoor

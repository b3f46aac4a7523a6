import Derived.Test.YtgccjefbedpmpaaGreatDoorProg
import Derived.WalkKit
import Derived.WalkSpells
import Derived.WalkLawsBesides
theorem Or.via {a b c d:Prop} (f:a→c) (g:b→d) (h:a∨b):c∨d:=h.elim (fun x=>.inl (f x)) fun x=>.inr (g x)
theorem Exists.via {α:Sort _} {p q:α→Prop} (f:∀ x,p x→q x) (h:∃ x,p x):∃ x,q x:=h.elim fun x k=>⟨x,f x k⟩
theorem And.via {a b c d:Prop} (f:a→c) (g:b→d) (h:a∧b):c∧d:=⟨f h.1,g h.2⟩
theorem List.Pairwise.via {α:Type _} {R S:α→α→Prop} (f:∀ {a b},R a b→S a b) {l:List α} (h:l.Pairwise R):l.Pairwise S:=List.pairwise_iff_getElem.2 fun i j a b c=>f (List.pairwise_iff_getElem.1 h i j a b c)
namespace Go.Proofs.YtgccjefbedpmpaaGreatDoor
open Go.RowKit

/-- x turned right by n places, as both texts come to it. -/
def rr (x : Int) (n : Nat) : Int := bits .or .u32 (x / 2 ^ n) (x * 2 ^ (32 - n) % 4294967296)
theorem bits_or_comm (x y : Int) : bits .or .u32 x y = bits .or .u32 y x := by
  simp only [bits]; rw [BitVec.or_comm]
def xr (a b : Int) : Int := bits .xor .u32 a b
def an (a b : Int) : Int := bits .and .u32 a b
def nt (a : Int) : Int := bits .xor .u32 4294967295 a
def S0 (x : Int) : Int := xr (xr (rr x 2) (rr x 13)) (rr x 22)
def S1 (x : Int) : Int := xr (xr (rr x 6) (rr x 11)) (rr x 25)
def s0 (x : Int) : Int := xr (xr (rr x 7) (rr x 18)) (x / 8)
def s1 (x : Int) : Int := xr (xr (rr x 17) (rr x 19)) (x / 1024)
def ch (x y z : Int) : Int := xr (an x y) (an (nt x) z)
def mj (x y z : Int) : Int := xr (xr (an x y) (an x z)) (an y z)
/-- A word of 32 bits. -/
def W32 (x : Int) : Prop := 0 ≤ x ∧ x < 4294967296
theorem bits_w32 (o : BinOp) (x y : Int) : W32 (bits o .u32 x y) := by
  unfold W32
  simp only [bits, IntKind.wrap, IntKind.bits, IntKind.signed]
  simp only [Bool.false_and, Bool.false_eq_true, if_false]
  omega
theorem rr_w (x : Int) (n : Nat) : W32 (rr x n) := bits_w32 _ _ _
theorem xr_w (x y : Int) : W32 (xr x y) := bits_w32 _ _ _
theorem S0_w (x : Int) : W32 (S0 x) := xr_w _ _
theorem S1_w (x : Int) : W32 (S1 x) := xr_w _ _
theorem s0_w (x : Int) : W32 (s0 x) := xr_w _ _
theorem s1_w (x : Int) : W32 (s1 x) := xr_w _ _
theorem ch_w (x y z : Int) : W32 (ch x y z) := xr_w _ _
theorem mj_w (x y z : Int) : W32 (mj x y z) := xr_w _ _
theorem ret_int {k : IntKind} {a b : Int} (h : a = b) : Ending.returned (.int k a) = .returned (.int k b) := by rw [h]

theorem tn2 : bits .and .u64 (IntKind.u64.wrap (-2)) 31 = 30 := by decide
theorem turn2 (x : Int) (w : World) (hx : W32 x) :
    Calls Tryz.prog 319 #[.int .u32 x, .int .i64 2] w fun e w' => e = .returned (.int .u32 (rr x 2)) ∧ w' = w := by
  obtain ⟨h0, h1⟩ := hx
  have t := tn2
  go_enter Tryz.func319, Tryz.ntmps319
  go_wp2
  go_ret
  exact ⟨ret_int (by unfold rr; rw [bits_or_comm]; rfl), rfl⟩
theorem right2 (x : Int) (w : World) (hx : W32 x) :
    Calls Tryz.prog 264 #[.int .u32 x, .int .i64 2] w fun e w' => e = .returned (.int .u32 (rr x 2)) ∧ w' = w.drew := by
  obtain ⟨h0, h1⟩ := hx
  go_enter Tryz.func264, Tryz.ntmps264
  go_wp2
  go_region
  all_goals go_wp2
  all_goals go_ret
  exact ⟨ret_int (by unfold rr; rfl), rfl⟩

theorem tn13 : bits .and .u64 (IntKind.u64.wrap (-13)) 31 = 19 := by decide
theorem turn13 (x : Int) (w : World) (hx : W32 x) :
    Calls Tryz.prog 319 #[.int .u32 x, .int .i64 13] w fun e w' => e = .returned (.int .u32 (rr x 13)) ∧ w' = w := by
  obtain ⟨h0, h1⟩ := hx
  have t := tn13
  go_enter Tryz.func319, Tryz.ntmps319
  go_wp2
  go_ret
  exact ⟨ret_int (by unfold rr; rw [bits_or_comm]; rfl), rfl⟩
theorem right13 (x : Int) (w : World) (hx : W32 x) :
    Calls Tryz.prog 264 #[.int .u32 x, .int .i64 13] w fun e w' => e = .returned (.int .u32 (rr x 13)) ∧ w' = w.drew := by
  obtain ⟨h0, h1⟩ := hx
  go_enter Tryz.func264, Tryz.ntmps264
  go_wp2
  go_region
  all_goals go_wp2
  all_goals go_ret
  exact ⟨ret_int (by unfold rr; rfl), rfl⟩

theorem tn22 : bits .and .u64 (IntKind.u64.wrap (-22)) 31 = 10 := by decide
theorem turn22 (x : Int) (w : World) (hx : W32 x) :
    Calls Tryz.prog 319 #[.int .u32 x, .int .i64 22] w fun e w' => e = .returned (.int .u32 (rr x 22)) ∧ w' = w := by
  obtain ⟨h0, h1⟩ := hx
  have t := tn22
  go_enter Tryz.func319, Tryz.ntmps319
  go_wp2
  go_ret
  exact ⟨ret_int (by unfold rr; rw [bits_or_comm]; rfl), rfl⟩
theorem right22 (x : Int) (w : World) (hx : W32 x) :
    Calls Tryz.prog 264 #[.int .u32 x, .int .i64 22] w fun e w' => e = .returned (.int .u32 (rr x 22)) ∧ w' = w.drew := by
  obtain ⟨h0, h1⟩ := hx
  go_enter Tryz.func264, Tryz.ntmps264
  go_wp2
  go_region
  all_goals go_wp2
  all_goals go_ret
  exact ⟨ret_int (by unfold rr; rfl), rfl⟩

theorem tn6 : bits .and .u64 (IntKind.u64.wrap (-6)) 31 = 26 := by decide
theorem turn6 (x : Int) (w : World) (hx : W32 x) :
    Calls Tryz.prog 319 #[.int .u32 x, .int .i64 6] w fun e w' => e = .returned (.int .u32 (rr x 6)) ∧ w' = w := by
  obtain ⟨h0, h1⟩ := hx
  have t := tn6
  go_enter Tryz.func319, Tryz.ntmps319
  go_wp2
  go_ret
  exact ⟨ret_int (by unfold rr; rw [bits_or_comm]; rfl), rfl⟩
theorem right6 (x : Int) (w : World) (hx : W32 x) :
    Calls Tryz.prog 264 #[.int .u32 x, .int .i64 6] w fun e w' => e = .returned (.int .u32 (rr x 6)) ∧ w' = w.drew := by
  obtain ⟨h0, h1⟩ := hx
  go_enter Tryz.func264, Tryz.ntmps264
  go_wp2
  go_region
  all_goals go_wp2
  all_goals go_ret
  exact ⟨ret_int (by unfold rr; rfl), rfl⟩

theorem tn11 : bits .and .u64 (IntKind.u64.wrap (-11)) 31 = 21 := by decide
theorem turn11 (x : Int) (w : World) (hx : W32 x) :
    Calls Tryz.prog 319 #[.int .u32 x, .int .i64 11] w fun e w' => e = .returned (.int .u32 (rr x 11)) ∧ w' = w := by
  obtain ⟨h0, h1⟩ := hx
  have t := tn11
  go_enter Tryz.func319, Tryz.ntmps319
  go_wp2
  go_ret
  exact ⟨ret_int (by unfold rr; rw [bits_or_comm]; rfl), rfl⟩
theorem right11 (x : Int) (w : World) (hx : W32 x) :
    Calls Tryz.prog 264 #[.int .u32 x, .int .i64 11] w fun e w' => e = .returned (.int .u32 (rr x 11)) ∧ w' = w.drew := by
  obtain ⟨h0, h1⟩ := hx
  go_enter Tryz.func264, Tryz.ntmps264
  go_wp2
  go_region
  all_goals go_wp2
  all_goals go_ret
  exact ⟨ret_int (by unfold rr; rfl), rfl⟩

theorem tn25 : bits .and .u64 (IntKind.u64.wrap (-25)) 31 = 7 := by decide
theorem turn25 (x : Int) (w : World) (hx : W32 x) :
    Calls Tryz.prog 319 #[.int .u32 x, .int .i64 25] w fun e w' => e = .returned (.int .u32 (rr x 25)) ∧ w' = w := by
  obtain ⟨h0, h1⟩ := hx
  have t := tn25
  go_enter Tryz.func319, Tryz.ntmps319
  go_wp2
  go_ret
  exact ⟨ret_int (by unfold rr; rw [bits_or_comm]; rfl), rfl⟩
theorem right25 (x : Int) (w : World) (hx : W32 x) :
    Calls Tryz.prog 264 #[.int .u32 x, .int .i64 25] w fun e w' => e = .returned (.int .u32 (rr x 25)) ∧ w' = w.drew := by
  obtain ⟨h0, h1⟩ := hx
  go_enter Tryz.func264, Tryz.ntmps264
  go_wp2
  go_region
  all_goals go_wp2
  all_goals go_ret
  exact ⟨ret_int (by unfold rr; rfl), rfl⟩

theorem tn7 : bits .and .u64 (IntKind.u64.wrap (-7)) 31 = 25 := by decide
theorem turn7 (x : Int) (w : World) (hx : W32 x) :
    Calls Tryz.prog 319 #[.int .u32 x, .int .i64 7] w fun e w' => e = .returned (.int .u32 (rr x 7)) ∧ w' = w := by
  obtain ⟨h0, h1⟩ := hx
  have t := tn7
  go_enter Tryz.func319, Tryz.ntmps319
  go_wp2
  go_ret
  exact ⟨ret_int (by unfold rr; rw [bits_or_comm]; rfl), rfl⟩
theorem right7 (x : Int) (w : World) (hx : W32 x) :
    Calls Tryz.prog 264 #[.int .u32 x, .int .i64 7] w fun e w' => e = .returned (.int .u32 (rr x 7)) ∧ w' = w.drew := by
  obtain ⟨h0, h1⟩ := hx
  go_enter Tryz.func264, Tryz.ntmps264
  go_wp2
  go_region
  all_goals go_wp2
  all_goals go_ret
  exact ⟨ret_int (by unfold rr; rfl), rfl⟩

theorem tn18 : bits .and .u64 (IntKind.u64.wrap (-18)) 31 = 14 := by decide
theorem turn18 (x : Int) (w : World) (hx : W32 x) :
    Calls Tryz.prog 319 #[.int .u32 x, .int .i64 18] w fun e w' => e = .returned (.int .u32 (rr x 18)) ∧ w' = w := by
  obtain ⟨h0, h1⟩ := hx
  have t := tn18
  go_enter Tryz.func319, Tryz.ntmps319
  go_wp2
  go_ret
  exact ⟨ret_int (by unfold rr; rw [bits_or_comm]; rfl), rfl⟩
theorem right18 (x : Int) (w : World) (hx : W32 x) :
    Calls Tryz.prog 264 #[.int .u32 x, .int .i64 18] w fun e w' => e = .returned (.int .u32 (rr x 18)) ∧ w' = w.drew := by
  obtain ⟨h0, h1⟩ := hx
  go_enter Tryz.func264, Tryz.ntmps264
  go_wp2
  go_region
  all_goals go_wp2
  all_goals go_ret
  exact ⟨ret_int (by unfold rr; rfl), rfl⟩

theorem tn17 : bits .and .u64 (IntKind.u64.wrap (-17)) 31 = 15 := by decide
theorem turn17 (x : Int) (w : World) (hx : W32 x) :
    Calls Tryz.prog 319 #[.int .u32 x, .int .i64 17] w fun e w' => e = .returned (.int .u32 (rr x 17)) ∧ w' = w := by
  obtain ⟨h0, h1⟩ := hx
  have t := tn17
  go_enter Tryz.func319, Tryz.ntmps319
  go_wp2
  go_ret
  exact ⟨ret_int (by unfold rr; rw [bits_or_comm]; rfl), rfl⟩
theorem right17 (x : Int) (w : World) (hx : W32 x) :
    Calls Tryz.prog 264 #[.int .u32 x, .int .i64 17] w fun e w' => e = .returned (.int .u32 (rr x 17)) ∧ w' = w.drew := by
  obtain ⟨h0, h1⟩ := hx
  go_enter Tryz.func264, Tryz.ntmps264
  go_wp2
  go_region
  all_goals go_wp2
  all_goals go_ret
  exact ⟨ret_int (by unfold rr; rfl), rfl⟩

theorem tn19 : bits .and .u64 (IntKind.u64.wrap (-19)) 31 = 13 := by decide
theorem turn19 (x : Int) (w : World) (hx : W32 x) :
    Calls Tryz.prog 319 #[.int .u32 x, .int .i64 19] w fun e w' => e = .returned (.int .u32 (rr x 19)) ∧ w' = w := by
  obtain ⟨h0, h1⟩ := hx
  have t := tn19
  go_enter Tryz.func319, Tryz.ntmps319
  go_wp2
  go_ret
  exact ⟨ret_int (by unfold rr; rw [bits_or_comm]; rfl), rfl⟩
theorem right19 (x : Int) (w : World) (hx : W32 x) :
    Calls Tryz.prog 264 #[.int .u32 x, .int .i64 19] w fun e w' => e = .returned (.int .u32 (rr x 19)) ∧ w' = w.drew := by
  obtain ⟨h0, h1⟩ := hx
  go_enter Tryz.func264, Tryz.ntmps264
  go_wp2
  go_region
  all_goals go_wp2
  all_goals go_ret
  exact ⟨ret_int (by unfold rr; rfl), rfl⟩

theorem S0_any (x : Int) (w : World) (hx : W32 x) :
    Calls Tryz.prog 283 #[.int .u32 x] w fun e w' => e = .returned (.int .u32 (S0 x)) ∧ w' = w := by
  go_enter Tryz.func283, Tryz.ntmps283
  go_wp2_with fail
  refine (turn2 _ _ hx).mono ?_
  rintro e w1 ⟨rfl, rfl⟩
  go_wp2_with fail
  refine (turn13 _ _ hx).mono ?_
  rintro e w1 ⟨rfl, rfl⟩
  go_wp2_with fail
  refine (turn22 _ _ hx).mono ?_
  rintro e w1 ⟨rfl, rfl⟩
  go_wp2
  go_ret
  exact ⟨ret_int rfl, rfl⟩

theorem S1_any (x : Int) (w : World) (hx : W32 x) :
    Calls Tryz.prog 281 #[.int .u32 x] w fun e w' => e = .returned (.int .u32 (S1 x)) ∧ w' = w := by
  go_enter Tryz.func281, Tryz.ntmps281
  go_wp2_with fail
  refine (turn6 _ _ hx).mono ?_
  rintro e w1 ⟨rfl, rfl⟩
  go_wp2_with fail
  refine (turn11 _ _ hx).mono ?_
  rintro e w1 ⟨rfl, rfl⟩
  go_wp2_with fail
  refine (turn25 _ _ hx).mono ?_
  rintro e w1 ⟨rfl, rfl⟩
  go_wp2
  go_ret
  exact ⟨ret_int rfl, rfl⟩

theorem s0_any (x : Int) (w : World) (hx : W32 x) :
    Calls Tryz.prog 286 #[.int .u32 x] w fun e w' => e = .returned (.int .u32 (s0 x)) ∧ w' = w := by
  have hx0 := hx.1
  have hx1 := hx.2
  go_enter Tryz.func286, Tryz.ntmps286
  go_wp2_with fail
  refine (turn7 _ _ hx).mono ?_
  rintro e w1 ⟨rfl, rfl⟩
  go_wp2_with fail
  refine (turn18 _ _ hx).mono ?_
  rintro e w1 ⟨rfl, rfl⟩
  go_wp2
  go_ret
  exact ⟨ret_int rfl, rfl⟩

theorem s1_any (x : Int) (w : World) (hx : W32 x) :
    Calls Tryz.prog 285 #[.int .u32 x] w fun e w' => e = .returned (.int .u32 (s1 x)) ∧ w' = w := by
  have hx0 := hx.1
  have hx1 := hx.2
  go_enter Tryz.func285, Tryz.ntmps285
  go_wp2_with fail
  refine (turn17 _ _ hx).mono ?_
  rintro e w1 ⟨rfl, rfl⟩
  go_wp2_with fail
  refine (turn19 _ _ hx).mono ?_
  rintro e w1 ⟨rfl, rfl⟩
  go_wp2
  go_ret
  exact ⟨ret_int rfl, rfl⟩

theorem choose_any (a b c : Int) (w : World) :
    Calls Tryz.prog 282 #[.int .u32 a, .int .u32 b, .int .u32 c] w fun e w' => e = .returned (.int .u32 (ch a b c)) ∧ w' = w := by
  go_enter Tryz.func282, Tryz.ntmps282
  have hs : IntKind.u32.signed = false := rfl
  go_wp2
  go_ret
  exact ⟨ret_int rfl, rfl⟩
theorem majority_any (a b c : Int) (w : World) :
    Calls Tryz.prog 284 #[.int .u32 a, .int .u32 b, .int .u32 c] w fun e w' => e = .returned (.int .u32 (mj a b c)) ∧ w' = w := by
  go_enter Tryz.func284, Tryz.ntmps284
  go_wp2
  go_ret
  exact ⟨ret_int rfl, rfl⟩
theorem key_any (a b : Int) (w : World) (ha : W32 a) (hb : W32 b) :
    Calls Tryz.prog 57 #[.int .u32 a, .int .u32 b] w fun e w' => e = .returned (.int .u64 (a * 1048576 + b)) ∧ w' = w := by
  obtain ⟨h0, h1⟩ := ha
  obtain ⟨h2, h3⟩ := hb
  go_enter Tryz.func57, Tryz.ntmps57
  go_wp2
  go_ret
  exact ⟨rfl, rfl⟩
/-- A mark's sign at a place. -/
def sg (a b : Int) : Int := wrap64 (a + wrap64 (b * wrap64 (1 + wrap64 (a.tdiv 256)))) % 256
theorem sg_u8 (a b : Int) : 0 ≤ sg a b ∧ sg a b < 256 := by unfold sg; omega
theorem sign_any (a b : Int) (w : World) :
    Calls Tryz.prog 151 #[.int .i64 a, .int .i64 b] w fun e w' => e = .returned (.int .u8 (sg a b)) ∧ w' = w := by
  go_enter Tryz.func151, Tryz.ntmps151
  go_wp2
  go_ret
  exact ⟨ret_int rfl, rfl⟩
end Go.Proofs.YtgccjefbedpmpaaGreatDoor

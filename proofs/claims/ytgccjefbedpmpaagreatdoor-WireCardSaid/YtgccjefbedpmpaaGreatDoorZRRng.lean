import Derived.Test.YtgccjefbedpmpaaGreatDoorGRdN
import Derived.Test.YtgccjefbedpmpaaGreatDoorGRightOp
import Derived.OwnWalk
namespace Go.Proofs.YtgccjefbedpmpaaGreatDoor
open Go.RowKit
/-- What a read leaves: an error, or what was read. -/
def RPost {α : Type} (R : Option (α × List Int)) (good : α → World → Value → Prop) (bad : Value → Prop) (rb g : Nat) (w : World) (e : Ending) (w' : World) : Prop :=
  ∃ v, e = .returned v ∧ (match R with
    | none => bad v
    | some (a, r) => good a w' v ∧ ∃ off' cap', Rd w' rb g off' cap' r) ∧ But (fun x => x = rb) w w'
section
variable {α : Type} {R : Option (α × List Int)} {good : α → World → Value → Prop} {bad : Value → Prop} {rb g off cap : Nat} {w w' : World} {v : Value}
theorem RPost.no (hR : R = none) (hx : bad v) (hb : But (fun x => x = rb) w w') : RPost R good bad rb g w (.returned v) w' := by
  subst hR; exact ⟨_, rfl, hx, hb⟩
theorem RPost.yes {a : α} {r : List Int} (hR : R = some (a, r)) (hg : good a w' v) (hr : Rd w' rb g off cap r) (hb : But (fun x => x = rb) w w') : RPost R good bad rb g w (.returned v) w' := by
  subst hR; exact ⟨_, rfl, ⟨hg, _, _, hr⟩, hb⟩
end
theorem tens_but {w w' : World} {rb : Nat} (h : Tens w) (hb : But (fun x => x = rb) w w') (hg : 15 ≤ rb) : Tens w' := by
  obtain ⟨t, f, h⟩ := h
  exact ⟨t, f, (hb.block _ (Array.getElem?_eq_some_iff.1 h).1 (by show 12 ≠ rb; omega)).trans h⟩
/-- A range that was read: its two numbers, no error. -/
def gRng (a : Int × Int) (_ : World) (v : Value) : Prop := v = .tuple #[.int .u64 a.1, .int .u64 a.2, .nilIface]
def bRng (v : Value) : Prop := ∃ a b x, v = .tuple #[.int .u64 a, .int .u64 b, x] ∧ Err x
/-- rgP, with the two numbers as one. -/
def rgP2 (k : Int) (l : List Int) : Option ((Int × Int) × List Int) := (rgP k l).map fun x => ((x.1, x.2.1), x.2.2)
set_option maxRecDepth 100000 in
set_option maxHeartbeats 1000000 in
theorem rrng_any (k : Int) (rb g off cap : Nat) (l : List Int) (w : World) (h : Rd w rb g off cap l) (hS : Sents w) (hg9 : 15 ≤ rb) :
    Calls Tryz.prog 249 #[.pointer (some ⟨rb, 0, none⟩), .int .i64 k] w fun e w' => RPost (rgP2 k l) gRng bRng rb g w e w' := by
  have hh := hasRange_any k
  by_cases hk : 1 ≤ k ∧ k ≤ 4
  · rw [decide_eq_true hk.1, decide_eq_true hk.2] at hh
    have Hh : Hid (∀ w, Calls _ _ _ w _) := hh
    have H1 := rvar_any 1099511627776 rb g off cap l w h hS hg9
    have HR : rgP2 k l = (match vR 1099511627776 l with
      | none => none
      | some (lo, l1) => match vR 1099511627776 l1 with
        | none => none
        | some (hi, l2) => some ((lo, hi), l2)) := by
      unfold rgP2 rgP
      rw [if_pos hk]
      cases vR 1099511627776 l with
      | none => rfl
      | some x =>
        obtain ⟨lo, l1⟩ := x
        dsimp only
        cases vR 1099511627776 l1 with
        | none => rfl
        | some y => rfl
    generalize rgP2 k l = R at *
    cases hv : vR 1099511627776 l with
    | none =>
      rw [hv] at H1 HR
      have HH1 : Hid (Calls _ _ _ _ _) := H1
      clear H1 hh
      go_enter Tryz.func249, Tryz.ntmps249
      go_wp2_with (first
        | (go_at_call 182; refine (Hh.out _).mono ?_; rintro e w1 ⟨rfl, hw1⟩; obtain rfl := hw1.symm)
        | (go_at_call 248; refine HH1.out.mono ?_; rintro e w2 ⟨⟨x, rfl, t, y, rfl⟩, hb2, hs2⟩))
      go_ret3
      exact RPost.no HR ⟨_, _, _, rfl, _, _, rfl⟩ hb2
    | some x =>
      obtain ⟨lo, l1⟩ := x
      rw [hv] at H1 HR
      dsimp only at HR
      have HH1 : Hid (Calls _ _ _ _ _) := H1
      clear H1 hh
      go_enter Tryz.func249, Tryz.ntmps249
      have H2 : Hid (∀ W off' cap', Rd W rb g off' cap' l1 → Sents W → Calls Tryz.prog 248 #[.pointer (some ⟨rb, 0, none⟩), .int .u64 1099511627776] W fun e w' => VPost (vR 1099511627776 l1) rb g W e w') := fun W o c hr hs => rvar_any _ rb g o c l1 W hr hs hg9
      cases hv2 : vR 1099511627776 l1 with
      | none =>
        rw [hv2] at H2 HR
        go_wp2_with (first
          | (go_at_call 248; have hq := hb2; clear hq; refine (H2.out _ _ _ hr2 hS2).mono ?_; rintro e w3 ⟨⟨x, rfl, t, y, rfl⟩, hb3, hs3⟩)
          | (go_at_call 182; refine (Hh.out _).mono ?_; rintro e w1 ⟨rfl, hw1⟩; obtain rfl := hw1.symm)
          | (go_at_call 248; refine HH1.out.mono ?_; rintro e w2 ⟨⟨rfl, off2, cap2, hr2⟩, hb2, hs2⟩; have hS2 := sents_but hS hb2 hg9))
        go_ret3
        exact RPost.no HR ⟨_, _, _, rfl, _, _, rfl⟩ (hb2.trans hb3)
      | some y =>
        obtain ⟨hi, l2⟩ := y
        rw [hv2] at H2 HR
        go_wp2_with (first
          | (go_at_call 248; have hq := hb2; clear hq; refine (H2.out _ _ _ hr2 hS2).mono ?_; rintro e w3 ⟨⟨rfl, off3, cap3, hr3⟩, hb3, hs3⟩)
          | (go_at_call 182; refine (Hh.out _).mono ?_; rintro e w1 ⟨rfl, hw1⟩; obtain rfl := hw1.symm)
          | (go_at_call 248; refine HH1.out.mono ?_; rintro e w2 ⟨⟨rfl, off2, cap2, hr2⟩, hb2, hs2⟩; have hS2 := sents_but hS hb2 hg9))
        go_ret3
        exact RPost.yes HR rfl hr3 (hb2.trans hb3)
  · have e : (decide (1 ≤ k) && decide (k ≤ 4)) = false := by simp; omega
    rw [e] at hh
    have Hh : Hid (∀ w, Calls _ _ _ w _) := hh
    have HR : rgP2 k l = some ((0, 0), l) := by unfold rgP2 rgP; rw [if_neg hk]; rfl
    generalize rgP2 k l = R at *
    clear hh
    go_enter Tryz.func249, Tryz.ntmps249
    go_wp2_with (go_at_call 182; refine (Hh.out _).mono ?_; rintro e w1 ⟨rfl, hw1⟩; obtain rfl := hw1.symm)
    go_ret3
    exact RPost.yes HR rfl h (But.refl _ _)
end Go.Proofs.YtgccjefbedpmpaaGreatDoor

import Derived.Test.YtgccjefbedpmpaaGreatDoorGRule
import Derived.Test.YtgccjefbedpmpaaGreatDoorGRSum
import Derived.Test.YtgccjefbedpmpaaGreatDoorGRefRd
import Derived.LaidEql
import Derived.Stop.Asserts
namespace Go.Proofs.YtgccjefbedpmpaaGreatDoor
open Go.RowKit
/-- What is left to be read: l, from off on in block g. -/
structure Rd (w : World) (rb g off cap : Nat) (l : List Int) : Prop where
  row : RowIs w rb 269 1 (fun _ => .slice (some ⟨g, off, none⟩) l.length cap)
  room : l.length < cap
  big : cap ≤ 9223372036854775807
  bytes : ∀ i (h : i < l.length), w.cell? ⟨g, off + i, none⟩ = some (.int .u8 l[i])
  byt : Byt l
  ne : g ≠ rb
theorem Rd.but {w w' : World} {rb g off cap : Nat} {l : List Int} (h : Rd w rb g off cap l) (hb : Below w.heap.size w w') : Rd w' rb g off cap l :=
  ⟨h.row.below hb h.row.lt, h.room, h.big, fun i hi => (hb.cell (block_lt_of_cell (h.bytes i hi))).trans (h.bytes i hi), h.byt, h.ne⟩
theorem sents_but {w w' : World} {rb : Nat} (h : Sents w) (hb : But (fun x => x = rb) w w') (hg : 15 ≤ rb) : Sents w' := by
  have k : ∀ g, g < 15 → (∃ a, w.cell? ⟨g, 0, none⟩ = some (.iface 435 (.pointer (some a)))) → ∃ a, w'.cell? ⟨g, 0, none⟩ = some (.iface 435 (.pointer (some a))) := fun g hl ⟨a, e⟩ => ⟨a, (World.cell?_of_block (hb.block g (block_lt_of_cell e) (by omega))).trans e⟩
  exact ⟨k _ (by decide) h.bounds, k _ (by decide) h.own, k _ (by decide) h.order, k _ (by decide) h.extra, k _ (by decide) h.count, k _ (by decide) h.short, k _ (by decide) h.more, k _ (by decide) h.long, k _ (by decide) h.check⟩
theorem next_nil (rb g off cap : Nat) (w : World) (h : Rd w rb g off cap []) (a : Addr) (hx : w.cell? ⟨2, 0, none⟩ = some (.iface 435 (.pointer (some a)))) :
    Calls Tryz.prog 247 #[.pointer (some ⟨rb, 0, none⟩)] w fun e w' => e = .returned (.tuple #[.int .u8 0, .iface 435 (.pointer (some a))]) ∧ ∃ n, w' = w.drewN n := by
  have c0 : w.cell? ⟨rb, 0, none⟩ = some (.slice (some ⟨g, off, none⟩) 0 cap) := h.row.cell (by omega)
  go_enter Tryz.func247, Tryz.ntmps247
  go_wp2
  go_quiet (fail)
  go_wp2
  go_ret2
  exact ⟨rfl, _, rfl⟩
set_option maxRecDepth 100000 in
theorem next_cons (rb g off cap : Nat) (b : Int) (l : List Int) (w : World) (h : Rd w rb g off cap (b :: l)) :
    Calls Tryz.prog 247 #[.pointer (some ⟨rb, 0, none⟩)] w fun e w' => e = .returned (.tuple #[.int .u8 b, .nilIface]) ∧ Rd w' rb g (off + 1) (cap - 1) l ∧ But (fun x => x = rb) w w' ∧ w'.heap.size = w.heap.size := by
  have c0 : w.cell? ⟨rb, 0, none⟩ = some (.slice (some ⟨g, off, none⟩) (l.length + 1) cap) := h.row.cell (by omega)
  have c1 : w.cell? ⟨g, off, none⟩ = some (.int .u8 b) := h.bytes 0 (by simp)
  have hc := h.room
  have hb := h.big
  rw [List.length_cons] at hc
  have f0 := h.row.free 0
  have e1 : ¬ (cap : Int) < 1 := by omega
  have e2 : ¬ cap = 1 := by omega
  have e3 : ¬ ((l.length : Int) + 1) = 0 := by omega
  go_enter Tryz.func247, Tryz.ntmps247
  go_wp2
  go_ret2
  refine ⟨rfl, ⟨(h.row.set 0 _).congr fun j hj => by rw [if_pos (by omega)], by omega, by omega, fun i hi => ?_, h.byt.tail, h.ne⟩, (But.refl (fun x => x = rb) w).setCell (p := ⟨rb, 0, none⟩) (Or.inl rfl) _, by simp [World.setCell]⟩
  rw [World.cell?_of_block (heap_setCell_other _ _ _ _ h.ne), show off + 1 + i = off + (i + 1) by omega, h.bytes (i + 1) (by simpa using hi)]
  rfl
/-- What is read, whatever else is written: the reader's own block alone. -/
theorem or_add (n c : Nat) (i : Nat) (hn : n < 128 ^ i) : n ||| c * 128 ^ i = n + c * 128 ^ i := by
  have e : (128 : Nat) ^ i = 2 ^ (7 * i) := by rw [Nat.pow_mul]
  rw [e] at hn ⊢
  rw [Nat.or_comm, Nat.mul_comm, ← Nat.two_pow_add_eq_or_of_lt hn c, Nat.add_comm]
theorem bits_or64 (a b : Nat) (ha : a < 18446744073709551616) (hb : b < 18446744073709551616) : bits .or .u64 (a : Int) (b : Int) = ((a ||| b : Nat) : Int) := by
  have h : a ||| b < 2 ^ 64 := Nat.or_lt_two_pow (by omega) (by omega)
  show (IntKind.u64.wrap ((BitVec.ofInt 64 (a : Int) ||| BitVec.ofInt 64 (b : Int)).toNat : Int)) = _
  have e1 : (BitVec.ofInt 64 (a : Int)).toNat = a := by rw [BitVec.toNat_ofInt]; omega
  have e2 : (BitVec.ofInt 64 (b : Int)).toNat = b := by rw [BitVec.toNat_ofInt]; omega
  rw [BitVec.toNat_or, e1, e2, u64r _ (by omega)]
theorem pow_27 (i : Nat) : (2 : Int) ^ (7 * i) = 128 ^ i := by
  rw [Int.pow_mul]; rfl
theorem bits_grp (n c i : Nat) (hn : n < 128 ^ i) (hc : c < 128) (hi : i < 9) : bits .or .u64 (n : Int) (IntKind.u64.wrap ((c : Int) * 2 ^ (7 * i))) = ((n + c * 128 ^ i : Nat) : Int) := by
  have hp : (128 : Nat) ^ i ≤ 72057594037927936 := by
    match i, hi with
    | 0, _ | 1, _ | 2, _ | 3, _ | 4, _ | 5, _ | 6, _ | 7, _ | 8, _ => decide
  have hm : c * 128 ^ i ≤ 127 * 72057594037927936 := Nat.mul_le_mul (by omega) hp
  have e : (c : Int) * 2 ^ (7 * i) = ((c * 128 ^ i : Nat) : Int) := by rw [pow_27]; simp
  rw [e, u64r _ (by omega), bits_or64 _ _ (by omega) (by omega), or_add n c i hn]
/-- What a read leaves: an error, or the number and what is left. -/
def VPost (R : Option (Int × List Int)) (rb g : Nat) (w : World) (e : Ending) (w' : World) : Prop :=
  (match R with
    | none => ∃ x, e = .returned (.tuple #[.int .u64 0, x]) ∧ Err x
    | some (m, r) => e = .returned (.tuple #[.int .u64 m, .nilIface]) ∧ ∃ off' cap', Rd w' rb g off' cap' r) ∧ But (fun x => x = rb) w w' ∧ w'.heap.size = w.heap.size
theorem VPost.bad {R : Option (Int × List Int)} {rb g : Nat} {w w' : World} {x : Value} (hR : R = none) (hx : Err x) (hb : But (fun x => x = rb) w w') (hs : w'.heap.size = w.heap.size) : VPost R rb g w (.returned (.tuple #[.int .u64 0, x])) w' := by
  subst hR; exact ⟨⟨_, rfl, hx⟩, hb, hs⟩
theorem VPost.good {R : Option (Int × List Int)} {rb g off cap : Nat} {w w' : World} {m : Int} {r : List Int} (hR : R = some (m, r)) (hr : Rd w' rb g off cap r) (hb : But (fun x => x = rb) w w') (hs : w'.heap.size = w.heap.size) : VPost R rb g w (.returned (.tuple #[.int .u64 m, .nilIface])) w' := by
  subst hR; exact ⟨⟨rfl, _, _, hr⟩, hb, hs⟩
theorem But.drewN {X : Nat → Prop} {a b : World} (h : But X a b) (n : Nat) : But X a (b.drewN n) := ⟨h.size, h.os, h.tape, h.output, h.block⟩
set_option maxRecDepth 100000 in
set_option maxHeartbeats 1000000 in
theorem rvar_any (most : Int) (rb g off cap : Nat) (l : List Int) (w : World) (h : Rd w rb g off cap l) (hS : Sents w) (hg9 : 15 ≤ rb) :
    Calls Tryz.prog 248 #[.pointer (some ⟨rb, 0, none⟩), .int .u64 most] w fun e w' => VPost (vR most l) rb g w e w' := by
  go_enter Tryz.func248, Tryz.ntmps248
  go_wp2
  go_loopw [6, 7] (fun nv sv wr => ∃ (i : Nat) (n : Nat) (off1 cap1 : Nat) (l1 : List Int), i ≤ 9 ∧ nv = .int .u64 n ∧ sv = .int .i64 (7 * (i : Int)) ∧ n < 128 ^ i ∧ Rd wr rb g off1 cap1 l1 ∧ vP most (9 - i) i n l1 = vR most l ∧ But (fun x => x = rb) w wr ∧ wr.heap.size = w.heap.size) (fun _ sv _ => 63 - (intOf sv).toNat)
  case atStart => exact ⟨0, 0, off, cap, l, by omega, rfl, rfl, by decide, h, rfl, But.refl _ _, rfl⟩
  case round =>
    obtain ⟨i, n, off1, cap1, l1, hi, rfl, rfl, hn, hr, hv, hbl, hsz⟩ := hrel
    obtain ⟨⟨aB, sB⟩, -, -, -, -, ⟨aS, sS⟩, -, ⟨aL, sL⟩, -⟩ := sents_but hS hbl hg9
    by_cases hlt : i < 9
    · have li : 7 * (i : Int) < 63 := by omega
      obtain ⟨m, hm9⟩ : ∃ m, 9 - i = m + 1 := ⟨8 - i, by omega⟩
      rw [hm9] at hv
      cases l1 with
      | nil =>
        have Hv : Hid (_ = vR most l) := hv
        clear hv
        go_wp2_with (go_at_call 247; refine (next_nil rb g off1 cap1 wr hr aS sS).mono ?_; rintro e w1 ⟨rfl, k1, rfl⟩)
        go_ret2
        exact VPost.bad Hv.out.symm ⟨_, _, rfl⟩ (hbl.drewN _) hsz
      | cons b l1 =>
        obtain ⟨b0, b1⟩ := hr.byt.head
        rw [vP] at hv
        obtain ⟨c, rfl⟩ : ∃ c : Nat, b = c := ⟨b.toNat, by omega⟩
        have Hv : Hid (_ = vR most l) := hv
        clear hv
        by_cases hc : (c : Int) < 128
        · have hc' : ¬ (128 : Int) ≤ (c : Int) := by omega
          have hcm : (c : Int) % 128 = c := by omega
          rw [if_neg hc', hcm] at Hv
          have hbg := bits_grp n c i hn (by omega) hlt
          have eN : (n : Int) + (c : Int) * 128 ^ i = ((n + c * 128 ^ i : Nat) : Int) := by simp
          rw [eN] at Hv
          generalize n + c * 128 ^ i = N at *
          by_cases h0 : (c : Int) = 0 ∧ 0 < i
          · rw [if_pos h0] at Hv
            obtain ⟨h0a, h0b⟩ := h0
            obtain rfl : c = 0 := by omega
            have l0 : (0 : Int) < 7 * (i : Int) := by omega
            go_wp2_with (go_at_call 247; refine (next_cons rb g off1 cap1 (0 : Nat) l1 wr hr).mono ?_; rintro e w1 ⟨rfl, hr1, hb1, hs1⟩; have hb1' := hbl.trans hb1; obtain ⟨⟨aB1, sB1⟩, -, -, -, -, -, -, ⟨aL1, sL1⟩, -⟩ := sents_but hS hb1' hg9)
            go_quiet (fail)
            go_wp2
            go_ret2
            exact VPost.bad Hv.out.symm ⟨_, _, rfl⟩ (hb1'.drewN _) (hs1.trans hsz)
          · rw [if_neg h0] at Hv
            by_cases e : c = 0
            · obtain rfl := e
              have l0 : ¬ (0 : Int) < 7 * (i : Int) := by omega
              rw [show ((0 : Nat) : Int) * 2 ^ (7 * i) = 0 by simp, show IntKind.u64.wrap 0 = 0 from rfl] at hbg
              clear h0
              by_cases hgt : most < (N : Int)
              · rw [if_pos hgt] at Hv
                go_wp2_with (go_at_call 247; refine (next_cons rb g off1 cap1 (0 : Nat) l1 wr hr).mono ?_; rintro e w1 ⟨rfl, hr1, hb1, hs1⟩; have hb1' := hbl.trans hb1; obtain ⟨⟨aB1, sB1⟩, -, -, -, -, -, -, ⟨aL1, sL1⟩, -⟩ := sents_but hS hb1' hg9)
                go_quiet (fail)
                go_wp2
                go_ret2
                exact VPost.bad Hv.out.symm ⟨_, _, rfl⟩ (hb1'.drewN _) (hs1.trans hsz)
              · rw [if_neg hgt] at Hv
                go_wp2_with (go_at_call 247; refine (next_cons rb g off1 cap1 (0 : Nat) l1 wr hr).mono ?_; rintro e w1 ⟨rfl, hr1, hb1, hs1⟩; have hb1' := hbl.trans hb1)
                go_ret2
                exact VPost.good Hv.out.symm hr1 hb1' (hs1.trans hsz)
            · have hcz : ((c : Int) == 0) = false := by simpa using e
              clear h0
              by_cases hgt : most < (N : Int)
              · rw [if_pos hgt] at Hv
                go_wp2_with (go_at_call 247; refine (next_cons rb g off1 cap1 c l1 wr hr).mono ?_; rintro e w1 ⟨rfl, hr1, hb1, hs1⟩; have hb1' := hbl.trans hb1; obtain ⟨⟨aB1, sB1⟩, -, -, -, -, -, -, ⟨aL1, sL1⟩, -⟩ := sents_but hS hb1' hg9)
                go_quiet (fail)
                go_wp2
                go_ret2
                exact VPost.bad Hv.out.symm ⟨_, _, rfl⟩ (hb1'.drewN _) (hs1.trans hsz)
              · rw [if_neg hgt] at Hv
                go_wp2_with (go_at_call 247; refine (next_cons rb g off1 cap1 c l1 wr hr).mono ?_; rintro e w1 ⟨rfl, hr1, hb1, hs1⟩; have hb1' := hbl.trans hb1)
                go_ret2
                exact VPost.good Hv.out.symm hr1 hb1' (hs1.trans hsz)
        · have hc' : (128 : Int) ≤ (c : Int) := by omega
          rw [if_pos hc'] at Hv
          obtain ⟨cm, hcm⟩ : ∃ cm : Nat, (c : Int) % 128 = cm := ⟨c % 128, by omega⟩
          have hbg := bits_grp n cm i hn (by omega) hlt
          rw [hcm] at Hv
          have eN : (n : Int) + (cm : Int) * 128 ^ i = ((n + cm * 128 ^ i : Nat) : Int) := by simp
          rw [eN] at Hv
          have hN : n + cm * 128 ^ i < 128 ^ (i + 1) := by
            have : cm * 128 ^ i ≤ 127 * 128 ^ i := Nat.mul_le_mul_right _ (by omega)
            rw [Nat.pow_succ]; omega
          generalize n + cm * 128 ^ i = N at *
          go_wp2_with (go_at_call 247; refine (next_cons rb g off1 cap1 c l1 wr hr).mono ?_; rintro e w1 ⟨rfl, hr1, hb1, hs1⟩)
          go_roundw
          case rel => exact ⟨i + 1, N, _, _, l1, by omega, rfl, by go_num, hN, hr1, by rw [show 9 - (i + 1) = m by omega]; exact Hv.out, hbl.trans hb1, hs1.trans hsz⟩
          case measure => simp [intOf]; omega
    · obtain rfl : i = 9 := by omega
      have Hv : Hid (_ = vR most l) := hv
      clear hv
      go_wp2
      go_quiet (fail)
      go_wp2
      go_ret2
      exact VPost.bad Hv.out.symm ⟨_, _, rfl⟩ (hbl.drewN _) hsz
end Go.Proofs.YtgccjefbedpmpaaGreatDoor
namespace Go.Proofs.YtgccjefbedpmpaaGreatDoor
open Go.RowKit Go.Extern.Stop Go.Stop Go.Extern
theorem isTO (v : Value) (w : World) : (ReflectliteType.typeOf #[.iface 435 v]).run Tryz.prog w = .ok (.iface 330 (.agg #[.pointer (some ⟨15, 435, none⟩)])) w := by kernel_rfl
theorem isCm (w : World) : ((ReflectliteType.method fun t => do Rtype.noPackHeld "Comparable" t; (fun a => Value.bool a.comparable) <$> typeInfo t) #[.agg #[.pointer (some ⟨15, 435, none⟩)]]).run Tryz.prog w = .ok (.bool true) w := by kernel_rfl
theorem isMC (v : Value) (w : World) : (Go.method 566 330 v "Comparable").run Tryz.prog w = .ok (375, v) w := by kernel_rfl
theorem isCo : (Tryz.prog.info? 435).map (·.comparable) = some true := by kernel_rfl
theorem isSz : (Tryz.prog.info? 454).map (·.size) = some 1 := by kernel_rfl
set_option maxRecDepth 100000 in
theorem isSame (a : Addr) (w : World) : Calls Tryz.prog 252 #[.iface 435 (.pointer (some a)), .iface 435 (.pointer (some a))] w fun e w' => e = .returned (.bool true) ∧ w' = w := by
  obtain ⟨i, hi, hcmp⟩ := Option.map_eq_some_iff.1 isCo
  obtain ⟨j, hj, hjs⟩ := Option.map_eq_some_iff.1 isSz
  have h1 := @run_callFunc_extern Tryz.prog 244 _ ReflectliteType.typeOf Tryz.func244 (by kernel_rfl) (by kernel_rfl) (by kernel_rfl) (by kernel_rfl)
  have h2 := @run_callFunc_extern Tryz.prog 375 _ (ReflectliteType.method fun t => do Rtype.noPackHeld "Comparable" t; pure (.bool (← typeInfo t).comparable)) Tryz.func375 (by kernel_rfl) (by kernel_rfl) (by kernel_rfl) (by kernel_rfl)
  have f1 := isTO
  have f2 := isCm
  have f3 := isMC
  have heq := run_eql_iface_ptr_same (P := Tryz.prog) w a Tryz.underlying123 Tryz.underlying435 hi hcmp hj
  go_enter Tryz.func252, Tryz.ntmps252
  go_wp2
  refine wp_loop_rounds 1 ?_
  rw [rounds_succ]
  go_wp2
  go_ret
  exact ⟨rfl, rfl⟩
theorem isNone (b : Addr) (w : World) : Calls Tryz.prog 252 #[.nilIface, .iface 435 (.pointer (some b))] w fun e w' => e = .returned (.bool false) ∧ w' = w := by
  have hn := run_eql_iface_nil_left (P := Tryz.prog) w 435 (.pointer (some b)) Tryz.underlying123
  go_enter Tryz.func252, Tryz.ntmps252
  go_wp2
  go_ret
  exact ⟨rfl, rfl⟩
theorem rend_nil (rb g off cap : Nat) (w : World) (h : Rd w rb g off cap []) (hS : Sents w) :
    Calls Tryz.prog 191 #[.pointer (some ⟨rb, 0, none⟩)] w fun e w' => e = .returned .nilIface ∧ But (fun x => x = rb) w w' ∧ w'.heap.size = w.heap.size := by
  obtain ⟨-, -, -, -, -, ⟨aS, sS⟩, -, -, -⟩ := hS
  go_enter Tryz.func191, Tryz.ntmps191
  go_wp2_with (first
    | (go_at_call 247; refine (next_nil rb g off cap w h aS sS).mono ?_; rintro e w1 ⟨rfl, k1, rfl⟩)
    | (go_at_call 252; refine (isSame aS _).mono ?_; rintro e w2 ⟨rfl, rfl⟩))
  go_ret
  exact ⟨rfl, (But.refl _ _).drewN _, rfl⟩
theorem rend_cons (rb g off cap : Nat) (b : Int) (l : List Int) (w : World) (h : Rd w rb g off cap (b :: l)) (hS : Sents w) (hg9 : 15 ≤ rb) :
    Calls Tryz.prog 191 #[.pointer (some ⟨rb, 0, none⟩)] w fun e w' => (∃ x, e = .returned x ∧ Err x) ∧ But (fun x => x = rb) w w' ∧ w'.heap.size = w.heap.size := by
  go_enter Tryz.func191, Tryz.ntmps191
  go_wp2_with (first
    | (go_at_call 247; refine (next_cons rb g off cap b l w h).mono ?_; rintro e w1 ⟨rfl, h1, hb1, hs1⟩; obtain ⟨-, -, -, -, -, ⟨aS, sS⟩, ⟨aM, sM⟩, -, -⟩ := sents_but hS hb1 hg9)
    | (go_at_call 252; refine (isNone aS _).mono ?_; rintro e w2 ⟨rfl, hw2⟩; obtain rfl := hw2.symm))
  go_ret
  exact ⟨⟨_, rfl, _, _, rfl⟩, hb1, hs1⟩
end Go.Proofs.YtgccjefbedpmpaaGreatDoor

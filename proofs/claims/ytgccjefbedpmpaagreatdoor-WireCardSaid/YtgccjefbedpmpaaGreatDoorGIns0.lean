import Derived.Test.YtgccjefbedpmpaaGreatDoorGBook2
import Derived.Test.YtgccjefbedpmpaaGreatDoorGStr
namespace Go.Proofs.YtgccjefbedpmpaaGreatDoor
open Go.RowKit Go.MuLone
theorem tellL_nil (n : Nat) (g : List Int) (ref : Int) : tellL n [] g ref = [] := by
  cases n with
  | zero => rfl
  | succ n => rfl
theorem tellable_nil : Tellable [] := by
  refine ⟨by decide, fun o h => (by cases h), fun o h => (by cases h), fun o h => (by cases h), fun o h => (by cases h), fun o h => (by cases h), fun xs hp _ => ?_⟩
  obtain rfl : xs = [] := List.Perm.eq_nil hp
  rw [tellL_nil]; decide
theorem told0_any (a : Option Addr) (cap : Nat) (w : World) : Calls Tryz.prog 153 #[.slice a 0 cap] w fun e w' => (∃ a' c', e = .returned (.slice a' 0 c')) ∧ Below w.heap.size w w' :=
  (told_any a cap [] w (Or.inl rfl) tellable_nil sortU_nil).mono fun e w' h => by
    obtain ⟨⟨v, xs, rfl, hp, _, ho⟩, hb⟩ := h
    obtain rfl : xs = [] := List.Perm.eq_nil hp
    rw [tellL_nil] at ho
    obtain ⟨a', c', rfl, -⟩ := own_viewN (own0 ho)
    exact ⟨⟨a', c', rfl⟩, hb⟩
set_option maxRecDepth 100000 in
set_option maxHeartbeats 1000000 in
theorem bIns0_any (b : Nat) (st cl ss : Int) (vK : Value) (ch : Int) (w : World) (h : RowIs w b 118 7 (rep7 st cl (.pointer none) (.slice none 0 0) ss vK)) (hcl : 1 ≤ cl ∧ cl ≤ 1048575) (hch : ∀ W, Calls Tryz.prog 154 #[.int .i32 ch] W fun e w' => e = .returned (.bool true) ∧ w' = W) (hE : Env w) :
    Calls Tryz.prog 87 #[.pointer (some ⟨b, 2, none⟩), .int .i64 0, .int .i32 ch] w fun e w' => e = .returned (.tuple #[.agg #[.int .i64 1, .int .u32 cl, .int .u32 1, .int .u32 1, .int .u64 0, .int .i32 ch], .int .i64 0]) ∧ Take0 b st cl ss vK (Tr.nil.with ⟨1, cl, 1, 1, 0, ch⟩ (rkOf (cl * 1048576 + 1))) w w' := by
  have hbl := h.lt
  have HO : Hid (∀ W, Below w.heap.size w W → Calls Tryz.prog 100 #[.agg #[.pointer none]] W fun e w' => (∃ s, e = .returned s ∧ OwnO w' W.heap.size s []) ∧ Below W.heap.size W w') := fun W hW => sOps_any .nil _ W rfl (by decide)
  have HW : Hid (∀ W, Below w.heap.size w W → Calls Tryz.prog 155 #[.pointer (some ⟨b, 2, none⟩), .agg #[.int .i64 1, .int .u32 0, .int .u32 0, .int .u32 0, .int .u64 0, .int .i32 ch]] W fun e w' => e = .returned (.tuple #[.agg #[.int .i64 1, .int .u32 cl, .int .u32 1, .int .u32 1, .int .u64 0, .int .i32 ch], .int .i64 0]) ∧ Take0 b st cl ss vK (Tr.nil.with ⟨1, cl, 1, 1, 0, ch⟩ (rkOf (cl * 1048576 + 1))) W w') := fun W hW => write0_any b st cl ss vK 0 ch W (h.below hW h.lt) hcl (hE.below hW)
  have HC : Hid (∀ W, Calls Tryz.prog 154 #[.int .i32 ch] W fun e w' => e = .returned (.bool true) ∧ w' = W) := hch
  have h0 : Below w.heap.size w (w.alloc (.cells #[.int .i64 0, .int .u32 0, .int .u32 0, .int .u32 0, .int .u64 0, .int .i32 0] 43)) := below1' _ _
  have c3 : (w.alloc (.cells #[.int .i64 0, .int .u32 0, .int .u32 0, .int .u32 0, .int .u64 0, .int .i32 0] 43)).cell? ⟨b, 3, none⟩ = some (.pointer none) := (h.alloc _).cell (j := 3) (by omega)
  have r0 : RowIs (w.alloc (.cells #[.int .i64 0, .int .u32 0, .int .u32 0, .int .u32 0, .int .u64 0, .int .i32 0] 43)) w.heap.size 43 6 (opV o0) := RowIs.last rfl rfl
  have H0 : Hid (Below w.heap.size w (w.alloc (.cells #[.int .i64 0, .int .u32 0, .int .u32 0, .int .u32 0, .int .u64 0, .int .i32 0] 43)) ∧ RowIs (w.alloc (.cells #[.int .i64 0, .int .u32 0, .int .u32 0, .int .u32 0, .int .u64 0, .int .i32 0] 43)) w.heap.size 43 6 (opV o0)) := ⟨h0, r0⟩
  generalize Tr.nil.with ⟨1, cl, 1, 1, 0, ch⟩ (rkOf (cl * 1048576 + 1)) = t2 at *
  clear h hE hch h0 r0
  go_enter Tryz.func87, Tryz.ntmps87
  go_wp2_with (first
    | (go_at_call 100; refine (HO.out _ H0.out.1).mono ?_; rintro e w1 ⟨⟨s, rfl, ho⟩, hb1⟩; obtain ⟨a1, c1, rfl, -⟩ := own_viewN (own0 ho); clear ho)
    | (go_at_call 153; refine (told0_any a1 c1 _).mono ?_; rintro e w2 ⟨⟨a2, c2, rfl⟩, hb2⟩)
    | (go_at_call 154; refine (HC.out _).mono ?_; rintro e w3 ⟨rfl, rfl⟩)
    | (go_at_call 155; have hb12 := hb1.trans (hb2.mono hb1.size); have hB2 := H0.out.1.trans (hb12.mono H0.out.1.size); refine (HW.out _ hB2).mono ?_; rintro e w4 ⟨rfl, tp, hr4, ht4, hb4⟩; have R4 : RowIs w4 w.heap.size 43 6 (opV o0) := (hb4.block _ (H0.out.2.below hb12 H0.out.2.lt).lt (fun e => by omega)).trans (H0.out.2.below hb12 H0.out.2.lt); have H4 : Hid (RowIs w4 b 118 7 (rep7 st cl tp (.slice none 0 0) ss vK) ∧ IsTr w4 tp t2 ∧ But (fun x => x = b) w w4) := ⟨hr4, ht4, (But.below hB2).trans hb4⟩; clear hr4 ht4 hb4)
    | (refine wpList_store_row rfl 43 (.tmp 6) (.tmp 42) rfl w.heap.size (rowOf 6 (opV ⟨1, cl, 1, 1, 0, ch⟩)) rfl rfl _ _ R4 (by rw [rowOf_size]; exact infoOp6) (by rw [rowOf_size, rowOf_size]) (opV_one _) ?_))
  exact bodyPost_ret (results_cell_tmp Tryz.results87 _ _ w.heap.size 43 _ (0, 0) _ _ rfl rfl (R4.setRow (opV ⟨1, cl, 1, 1, 0, ch⟩)) Tryz.underlying43 rfl (by rw [rowOf_size]; exact infoOp6)) rfl ⟨rfl, tp, H4.out.1.setRowOther (by omega) _, isTr_set R4 (by decide) _ H4.out.2.1, H4.out.2.2.putRow (Nat.le_refl _) _⟩
/-- What the globals hold is kept where their blocks are. -/
theorem Env.frame {w w' : World} (h : Env w) (hs : w.heap.size ≤ w'.heap.size) (hb : ∀ g, g < 15 → w'.heap[g]? = w.heap[g]?) : Env w' := by
  have k : ∀ g, g < 15 → (∃ a, w.cell? ⟨g, 0, none⟩ = some (.iface 435 (.pointer (some a)))) → ∃ a, w'.cell? ⟨g, 0, none⟩ = some (.iface 435 (.pointer (some a))) := fun g hg ⟨a, e⟩ => ⟨a, (World.cell?_of_block (hb g hg)).trans e⟩
  refine ⟨⟨k _ (by decide) h.sents.bounds, k _ (by decide) h.sents.own, k _ (by decide) h.sents.order, k _ (by decide) h.sents.extra, k _ (by decide) h.sents.count, k _ (by decide) h.sents.short, k _ (by decide) h.sents.more, k _ (by decide) h.sents.long, k _ (by decide) h.sents.check⟩, ?_, (World.cell?_of_block (hb 1 (by decide))).trans h.handle, Nat.lt_of_lt_of_le h.glt hs, fun j hj => (World.cell?_of_block (hb 11 (by decide))).trans (h.table j hj)⟩
  obtain ⟨t, f, q⟩ := h.tens
  exact ⟨t, f, (hb 12 (by decide)).trans q⟩
theorem Env.but {w w' : World} {X : Nat → Prop} (h : Env w) (hb : But X w w') (hX : ∀ b, X b → 15 ≤ b) (hs : 15 ≤ w.heap.size) : Env w' := h.frame hb.size fun g hg => hb.block g (by omega) fun e => by have := hX g e; omega
set_option maxRecDepth 100000 in
set_option maxHeartbeats 1000000 in
theorem rIns0_any (b : Nat) (cl ss : Int) (vK : Value) (ch : Int) (w : World) (h : RowIs w b 118 7 (rep7 0 cl (.pointer none) (.slice none 0 0) ss vK)) (hcl : 1 ≤ cl ∧ cl ≤ 1048575) (hch : okChar ch = true) (hE : Env w) (hbE : 15 ≤ b) :
    Calls Tryz.prog 45 #[.pointer (some ⟨b, 0, none⟩), .int .i64 0, .int .i32 ch] w fun e w' => e = .returned (.tuple #[.agg #[.int .i64 1, .int .u32 cl, .int .u32 1, .int .u32 1, .int .u64 0, .int .i32 ch], .int .i64 0]) ∧ Take0 b 0 cl ss vK (Tr.nil.with ⟨1, cl, 1, 1, 0, ch⟩ (rkOf (cl * 1048576 + 1))) w w' := by
  have hbl := h.lt
  have c0 : w.cell? ⟨b, 0, none⟩ = some (.int .i32 0) := h.cell (j := 0) (by omega)
  have f0 := h.free 0
  have a0 : (w.alloc (.cells #[.int .i64 0, .int .u32 0, .int .u32 0, .int .u32 0, .int .u64 0, .int .i32 0] 43)).cell? ⟨b, 0, none⟩ = some (.int .i32 0) := (h.alloc _).cell (j := 0) (by omega)
  have g0 := (h.alloc (.cells #[.int .i64 0, .int .u32 0, .int .u32 0, .int .u32 0, .int .u64 0, .int .i32 0] 43)).free 0
  have hz : (w.setCell ⟨b, 0, none⟩ (.int .i32 1)).heap.size = w.heap.size := by simp [World.setCell]
  have h1 := (rep_lock h).alloc (.cells #[.int .i64 0, .int .u32 0, .int .u32 0, .int .u32 0, .int .u64 0, .int .i32 0] 43)
  have b1 : But (fun x => x = b) w ((w.setCell ⟨b, 0, none⟩ (.int .i32 1)).alloc (.cells #[.int .i64 0, .int .u32 0, .int .u32 0, .int .u32 0, .int .u64 0, .int .i32 0] 43)) := (But.set b 0 _).trans (But.below (below1' _ _))
  have r1 : RowIs ((w.setCell ⟨b, 0, none⟩ (.int .i32 1)).alloc (.cells #[.int .i64 0, .int .u32 0, .int .u32 0, .int .u32 0, .int .u64 0, .int .i32 0] 43)) w.heap.size 43 6 (opV o0) := RowIs.last (w := w.setCell ⟨b, 0, none⟩ (.int .i32 1)) (n := 6) (f := opV o0) (cs := #[.int .i64 0, .int .u32 0, .int .u32 0, .int .u32 0, .int .u64 0, .int .i32 0]) hz.symm rfl
  have HI : Hid (Calls _ _ _ _ _) := bIns0_any b 1 cl ss vK ch _ h1 hcl (fun W => by have := pIsChar_any ch W; rwa [hch] at this) (hE.but b1 (fun x e => by subst e; exact hbE) (by omega))
  have H1 : Hid (But (fun x => x = b) w ((w.setCell ⟨b, 0, none⟩ (.int .i32 1)).alloc (.cells #[.int .i64 0, .int .u32 0, .int .u32 0, .int .u32 0, .int .u64 0, .int .i32 0] 43)) ∧ RowIs ((w.setCell ⟨b, 0, none⟩ (.int .i32 1)).alloc (.cells #[.int .i64 0, .int .u32 0, .int .u32 0, .int .u32 0, .int .u64 0, .int .i32 0] 43)) w.heap.size 43 6 (opV o0)) := ⟨b1, r1⟩
  generalize Tr.nil.with ⟨1, cl, 1, 1, 0, ch⟩ (rkOf (cl * 1048576 + 1)) = t2 at *
  clear h h1 hE hch b1 r1 hbE
  go_enter_defers Tryz.func45, Tryz.ntmps45
  go_wp2_with (first
    | (go_at_call 49; refine (lock_free muLib ⟨b, 0, none⟩ _ a0 g0).mono ?_; rintro e w' ⟨rfl, rfl⟩)
    | (go_at_call 87; refine HI.out.mono ?_; rintro e w2 ⟨rfl, tp, hr2, ht2, hb2⟩; have R2 : RowIs w2 w.heap.size 43 6 (opV o0) := (hb2.block _ H1.out.2.lt (fun e => by omega)).trans H1.out.2; have H2 : Hid (RowIs w2 b 118 7 (rep7 1 cl tp (.slice none 0 0) ss vK) ∧ IsTr w2 tp t2 ∧ But (fun x => x = b) w w2) := ⟨hr2, ht2, H1.out.1.trans hb2⟩; clear hr2 ht2 hb2)
    | (refine wpList_store_row rfl 43 (.tmp 6) (.tmp 21) rfl w.heap.size (rowOf 6 (opV ⟨1, cl, 1, 1, 0, ch⟩)) rfl rfl _ _ R2 (by rw [rowOf_size]; exact infoOp6) (by rw [rowOf_size, rowOf_size]) (opV_one _) ?_))
  have R3 := R2.setRow (opV ⟨1, cl, 1, 1, 0, ch⟩)
  have h3 : RowIs (w2.setRow w.heap.size (rowOf 6 (opV ⟨1, cl, 1, 1, 0, ch⟩))) b 118 7 (rep7 1 cl tp (.slice none 0 0) ss vK) := H2.out.1.setRowOther (by omega) _
  refine leaves_cons (f := 50) (args := #[.pointer (some ⟨b, 0, none⟩)]) (by simp) (by simp [go_sem]) ?_
  refine (unlock_deferred muLib ⟨b, 0, none⟩ .returning _ (h3.cell (j := 0) (by omega)) (h3.free 0)).mono ?_
  rintro e u' w'' ⟨rfl, rfl, rfl⟩
  have R4 := R3.setOther (a := ⟨b, 0, none⟩) (fun e => by have : b = w.heap.size := e; omega) (.int .i32 0)
  exact ⟨_, results_cell_tmp Tryz.results45 _ _ w.heap.size 43 _ (0, 0) _ _ rfl rfl R4 Tryz.underlying43 rfl (by rw [rowOf_size]; exact infoOp6), rfl, tp, rep_unlock h3, isTr_but h3 (by decide) (But.set b 0 _) (isTr_set R2 (by decide) _ H2.out.2.1), (H2.out.2.2.putRow (Nat.le_refl _) _).trans (But.set b 0 _)⟩
end Go.Proofs.YtgccjefbedpmpaaGreatDoor
namespace Go.Proofs.YtgccjefbedpmpaaGreatDoor
open Go.RowKit
theorem below_but {B b : Nat} {w w1 w2 : World} (h : Below B w w1) (hb : But (fun x => x = b) w1 w2) (hB : B ≤ b) (hs : B ≤ w1.heap.size) : Below B w w2 :=
  ⟨hb.os.trans h.os, hb.tape.trans h.tape, hb.output.trans h.output, Nat.le_trans h.size hb.size, fun k hk => (hb.block k (by omega) (by omega)).trans (h.block k hk)⟩
theorem tellL_one (n : Nat) (o : Opn) (h0 : o.rf = 0) (hk : o.key ≠ 0) : tellL (n + 1) [o] [] 0 = [o] := by
  have e1 : ∀ m, tellL m [o] [] o.key = [] := fun m => by
    cases m with
    | zero => rfl
    | succ m =>
      have : hangs [o] o.key = [] := by unfold hangs; rw [List.filter_cons_of_neg (by rw [h0]; simp; exact fun e => hk e.symm)]; rfl
      rw [tellL, this]; rfl
  have e2 : hangs [o] 0 = [o] := by unfold hangs; rw [List.filter_cons_of_pos (by simp [h0])]; rfl
  rw [tellL, e2]
  simp [e1]
theorem one_text (o : Opn) (hk1 : o.kd = 1) (h0 : o.rf = 0) (hk : o.key ≠ 0) (hcc : ccT o) (hkb : o.key < 1152921504606846976) (hst : 0 ≤ o.st ∧ o.st < 1073741824) (hch : -2147483648 ≤ o.ch ∧ o.ch ≤ 2147483647) : TextOk [o] ∧ ∀ e, StrP [o] e → e = .returned (.string ⟨(Lib.encodeRune o.ch).toArray⟩) := by
  have i1 : insOf [o] = [o] := by unfold insOf; rw [List.filter_cons_of_pos (by simp [hk1])]; rfl
  have g1 : goneOf [o] = [] := by unfold goneOf; rw [List.filter_cons_of_neg (by simp [hk1])]; rfl
  have m1 : ∀ x, x ∈ [o] → x = o := fun x hx => List.mem_singleton.1 hx
  refine ⟨⟨⟨by simp, fun x hx => m1 x hx ▸ hcc, fun x hx => m1 x hx ▸ hkb, fun x hx => m1 x hx ▸ hst, fun x hx => by rw [m1 x hx, h0]; exact Int.le_refl _, fun x hx y hy e => ?_, fun xs hp _ => ?_⟩, by rw [g1]; exact sortU_nil, fun x hx => m1 x hx ▸ hch⟩, fun e h => ?_⟩
  · rw [i1] at hx hy
    rw [m1 x hx, m1 y hy, h0] at e
    exact absurd e.symm hk
  · rw [i1] at hp
    obtain rfl := List.perm_singleton.1 hp
    rw [g1, show (1073741824 : Nat) = 1073741823 + 1 from rfl, tellL_one _ _ h0 hk]; simp
  · obtain ⟨xs, hp, _, rfl⟩ := h
    rw [i1] at hp
    obtain rfl := List.perm_singleton.1 hp
    rw [g1, show (1073741824 : Nat) = 1073741823 + 1 from rfl, tellL_one _ _ h0 hk]
    simp [strOf]
set_option maxRecDepth 100000 in
set_option maxHeartbeats 1000000 in
theorem known_any (w : World) (hE : Env w) (hG : 15 ≤ w.heap.size) : Calls Tryz.prog 17 #[] w fun e w' => e = .returned (.bool true) ∧ Below w.heap.size w w' := by
  have HN : Hid (Calls Tryz.prog 20 #[.int .u32 7] w fun e w' => (∃ b, e = .returned (.tuple #[.pointer (some ⟨b, 0, none⟩), .int .i64 0]) ∧ w.heap.size ≤ b ∧ RowIs w' b 118 7 (rep7 0 7 (.pointer none) (.slice none 0 0) 0 (.slice none 0 0))) ∧ Below w.heap.size w w') := (new_any 7 w).mono fun e w' h => by
    obtain ⟨h1, h2⟩ := h
    unfold NewP at h1
    rw [if_pos ⟨by decide, by decide⟩] at h1
    exact ⟨h1, h2⟩
  have HE : Hid (Env w ∧ 15 ≤ w.heap.size) := ⟨hE, hG⟩
  obtain ⟨q1, q2⟩ := one_text ⟨1, 7, 1, 1, 0, 120⟩ rfl rfl (by decide) ⟨by decide, by decide⟩ (by decide) (by decide) (by decide)
  have hL : (Tr.nil.with ⟨1, 7, 1, 1, 0, 120⟩ (rkOf (7 * 1048576 + 1))).list = [⟨1, 7, 1, 1, 0, 120⟩] := rfl
  have HI : Hid (∀ W b, RowIs W b 118 7 (rep7 0 7 (.pointer none) (.slice none 0 0) 0 (.slice none 0 0)) → Env W → 15 ≤ b → Calls Tryz.prog 45 #[.pointer (some ⟨b, 0, none⟩), .int .i64 0, .int .i32 120] W fun e w' => e = .returned (.tuple #[.agg #[.int .i64 1, .int .u32 7, .int .u32 1, .int .u32 1, .int .u64 0, .int .i32 120], .int .i64 0]) ∧ Take0 b 0 7 0 (.slice none 0 0) (Tr.nil.with ⟨1, 7, 1, 1, 0, 120⟩ (rkOf (7 * 1048576 + 1))) W w') := fun W b hR hE hb => rIns0_any b 7 0 _ 120 W hR (by decide) (by decide) hE hb
  generalize Tr.nil.with ⟨1, 7, 1, 1, 0, 120⟩ (rkOf (7 * 1048576 + 1)) = t2 at *
  have HT : Hid (∀ W b tp, RowIs W b 118 7 (rep7 0 7 tp (.slice none 0 0) 0 (.slice none 0 0)) → IsTr W tp t2 → Calls Tryz.prog 26 #[.pointer (some ⟨b, 0, none⟩)] W fun e w' => e = .returned (.string ⟨#[120]⟩) ∧ RowIs w' b 118 7 (rep7 0 7 tp (.slice none 0 0) 0 (.slice none 0 0)) ∧ But (fun x => x = b) W w') := fun W b tp hR hI => (rText_any b 7 0 tp _ _ t2 W hR hI (by rw [hL]; exact q1)).mono fun e w' h => by
    obtain ⟨h1, h2, h3⟩ := h
    rw [hL] at h1
    exact ⟨q2 e h1, h2, h3⟩
  have HO : Hid (∀ W b tp, RowIs W b 118 7 (rep7 0 7 tp (.slice none 0 0) 0 (.slice none 0 0)) → IsTr W tp t2 → Calls Tryz.prog 23 #[.pointer (some ⟨b, 0, none⟩)] W fun e w' => (∃ a c, e = .returned (.slice a 1 c)) ∧ But (fun x => x = b) W w') := fun W b tp hR hI => (rOps_any b 7 0 tp _ _ t2 W hR hI (by rw [hL]; decide)).mono fun e w' h => by
    obtain ⟨⟨s, rfl, ho⟩, h2, h3⟩ := h
    rw [hL] at ho
    obtain ⟨a, c, rfl, -⟩ := own_viewN (own0 ho)
    exact ⟨⟨a, c, rfl⟩, h3⟩
  clear hE q1 q2 hL
  go_enter Tryz.func17, Tryz.ntmps17
  go_wp2_with (first
    | (go_at_call 20; refine HN.out.mono ?_; rintro e w1 ⟨⟨b, rfl, hb, hr⟩, hb1⟩; have H1 : Hid (RowIs w1 b 118 7 (rep7 0 7 (.pointer none) (.slice none 0 0) 0 (.slice none 0 0)) ∧ Below w.heap.size w w1 ∧ w.heap.size ≤ b) := ⟨hr, hb1, hb⟩; clear hr hb1)
    | (go_at_call 45; refine (HI.out _ _ H1.out.1 (HE.out.1.below H1.out.2.1) (by have := HE.out.2; omega)).mono ?_; rintro e w2 ⟨rfl, tp, hr2, ht2, hb2⟩; have H2 : Hid (RowIs (w2.alloc (.cells #[.int .i64 1, .int .u32 7, .int .u32 1, .int .u32 1, .int .u64 0, .int .i32 120] 43)) b 118 7 (rep7 0 7 tp (.slice none 0 0) 0 (.slice none 0 0)) ∧ IsTr (w2.alloc (.cells #[.int .i64 1, .int .u32 7, .int .u32 1, .int .u32 1, .int .u64 0, .int .i32 120] 43)) tp t2 ∧ Below w.heap.size w (w2.alloc (.cells #[.int .i64 1, .int .u32 7, .int .u32 1, .int .u32 1, .int .u64 0, .int .i32 120] 43))) := ⟨hr2.alloc _, ht2.below (below1' _ _), by have q := below_but H1.out.2.1 hb2 H1.out.2.2 H1.out.2.1.size; exact q.alloc q.size _⟩; clear hr2 ht2 hb2)
    | (go_at_call 26; refine (HT.out _ _ tp H2.out.1 H2.out.2.1).mono ?_; rintro e w3 ⟨rfl, hr3, hb3⟩; have H3 : Hid (RowIs w3 b 118 7 (rep7 0 7 tp (.slice none 0 0) 0 (.slice none 0 0)) ∧ IsTr w3 tp t2 ∧ Below w.heap.size w w3) := ⟨hr3, isTr_but H2.out.1 (by decide) hb3 H2.out.2.1, below_but H2.out.2.2 hb3 H1.out.2.2 H2.out.2.2.size⟩; clear hr3 hb3)
    | (go_at_call 23; refine (HO.out _ _ tp H3.out.1 H3.out.2.1).mono ?_; rintro e w4 ⟨⟨a4, c4, rfl⟩, hb4⟩))
  go_ret
  exact ⟨rfl, below_but H3.out.2.2 hb4 H1.out.2.2 H3.out.2.2.size⟩
end Go.Proofs.YtgccjefbedpmpaaGreatDoor

import Derived.Test.YtgccjefbedpmpaaGreatDoorZRRng
namespace Go.Proofs.YtgccjefbedpmpaaGreatDoor
open Go.RowKit
theorem results_cell_tmp {P : Program} {fn : Func} {p q : Tmp} {ty : TypeId} (h : fn.results = #[.cell p ty, .tmp q]) (tmps : Array Value) (w : World) (g : Nat) (t : TypeId) (cs : Array Value) (fr : Nat × Nat) (d : TypeDesc) (x : Value)
    (hp : tmps.getD p undef = .pointer (some ⟨g, 0, none⟩)) (hq : tmps.getD q undef = x) (hg : w.heap[g]? = some (.cells cs t fr))
    (hu : P.underlying ty = some d) (hd : (match d with | .struct _ | .array _ _ => true | _ => false) = true) (hi : (P.info? ty).map (·.size) = some cs.size) :
    (results fn tmps).run P w = .ok (.tuple #[.agg cs, x]) w := by
  have hp' : tmps[p]?.getD undef = .pointer (some ⟨g, 0, none⟩) := by simpa using hp
  have hq' : tmps[q]?.getD undef = x := by simpa using hq
  simp [results, h, hp', hq', asAddr, run_loadVar_row w g t ty cs fr d hg hu hd hi]
theorem Rd.set {w : World} {rb g off cap : Nat} {l : List Int} (h : Rd w rb g off cap l) {o : Nat} (h1 : o ≠ rb) (h2 : o ≠ g) (k : Nat) (v : Value) : Rd (w.setCell ⟨o, k, none⟩ v) rb g off cap l :=
  ⟨h.row.far h1 k v, h.room, h.big, fun i hi => (World.cell?_of_block (heap_setCell_other _ _ _ _ fun e => h2 e.symm)).trans (h.bytes i hi), h.byt, h.ne⟩
theorem Rd.setRow {w : World} {rb g off cap : Nat} {l : List Int} (h : Rd w rb g off cap l) {o : Nat} (h1 : o ≠ rb) (h2 : o ≠ g) (cs : Array Value) : Rd (w.setRow o cs) rb g off cap l :=
  ⟨h.row.setRowOther h1 cs, h.room, h.big, fun i hi => (World.cell?_of_block (setRow_other _ _ _ _ fun e => h2 e.symm)).trans (h.bytes i hi), h.byt, h.ne⟩
theorem Rd.glt {w : World} {rb g off cap : Nat} {l : List Int} (h : Rd w rb g off cap l) (hl : l ≠ []) : g < w.heap.size := block_lt_of_cell (h.bytes 0 (List.length_pos_iff.2 hl))
def d3 (a b c : Int) : Nat → Value
  | 0 => .int .u8 a
  | 1 => .int .u8 b
  | _ => .int .u8 c
theorem infoDg : (Tryz.prog.info? 50).map (·.size) = some 3 := by kernel_rfl
def gDig (a : Int × Int × Int) (_ : World) (v : Value) : Prop := v = .tuple #[.agg #[.int .u8 a.1, .int .u8 a.2.1, .int .u8 a.2.2], .nilIface]
def bDig (v : Value) : Prop := ∃ a b c x, v = .tuple #[.agg #[.int .u8 a, .int .u8 b, .int .u8 c], x] ∧ Err x
def dgP2 (k : Int) (l : List Int) : Option ((Int × Int × Int) × List Int) := (dgP k l).map fun x => ((x.1, x.2.1, x.2.2.1), x.2.2.2)
set_option maxRecDepth 100000 in
set_option maxHeartbeats 1000000 in
theorem rdig_any (k : Int) (rb g off cap : Nat) (l : List Int) (w : World) (h : Rd w rb g off cap l) (hgl : g < w.heap.size) (hS : Sents w) (hg9 : 15 ≤ rb) :
    Calls Tryz.prog 250 #[.pointer (some ⟨rb, 0, none⟩), .int .i64 k] w fun e w' => RPost (dgP2 k l) gDig bDig rb g w e w' := by
  have hB0 : Below w.heap.size w ((w.alloc (.cells #[.int .u8 0, .int .u8 0, .int .u8 0] 50)).alloc (.cells #[.int .u8 0, .int .u8 0, .int .u8 0] 50)) := ((Below.refl _ _).alloc (Nat.le_refl _) _).alloc (by simp) _
  have hsz : ((w.alloc (.cells #[.int .u8 0, .int .u8 0, .int .u8 0] 50)).alloc (.cells #[.int .u8 0, .int .u8 0, .int .u8 0] 50)).heap.size = w.heap.size + 2 := by simp
  have R0 : RowIs ((w.alloc (.cells #[.int .u8 0, .int .u8 0, .int .u8 0] 50)).alloc (.cells #[.int .u8 0, .int .u8 0, .int .u8 0] 50)) w.heap.size 50 3 (d3 0 0 0) := (RowIs.new w 50 3 (d3 0 0 0)).below ((Below.refl _ _).alloc (Nat.le_refl _) _) (by simp)
  have D0 : RowIs ((w.alloc (.cells #[.int .u8 0, .int .u8 0, .int .u8 0] 50)).alloc (.cells #[.int .u8 0, .int .u8 0, .int .u8 0] 50)) (w.heap.size + 1) 50 3 (d3 0 0 0) := by
    have := RowIs.new (w.alloc (.cells #[.int .u8 0, .int .u8 0, .int .u8 0] 50)) 50 3 (d3 0 0 0)
    rw [show (w.alloc (.cells #[.int .u8 0, .int .u8 0, .int .u8 0] 50)).heap.size = w.heap.size + 1 by simp] at this
    exact this
  have h0 := h.but hB0
  have hS0 := hS.below hB0
  have B0 : But (fun x => x = rb) w _ := But.below hB0
  have hrl := h.row.lt
  generalize hW0 : ((w.alloc (.cells #[.int .u8 0, .int .u8 0, .int .u8 0] 50)).alloc (.cells #[.int .u8 0, .int .u8 0, .int .u8 0] 50)) = W0 at *
  have HW0 : Hid (_ = W0) := hW0
  clear hW0
  have n1 : w.heap.size ≠ rb := by omega
  have n2 : w.heap.size + 1 ≠ rb := by omega
  have n3 : w.heap.size + 1 ≠ g := by omega
  have n4 : w.heap.size ≠ w.heap.size + 1 := by omega
  have n3q : w.heap.size ≠ g := by omega
  by_cases hk : k = 1
  · subst hk
    match l, h, h0 with
    | [], h, h0 =>
      have HR : Hid (dgP2 1 [] = none) := rfl
      go_enter Tryz.func250, Tryz.ntmps250
      go_wp2_with fail
      rw [HW0.out]
      refine wp_loop_rounds 1 ?_
      rw [rounds_succ]
      obtain ⟨-, -, -, -, -, ⟨aS, sS⟩, -, -, -⟩ := hS0
      go_wp2_with (first
        | (go_at_call 247; refine (next_nil rb g _ _ _ h0 aS sS).mono ?_; rintro e w9 ⟨rfl, k9, rfl⟩; have e0 : World.cell? _ ⟨w.heap.size + 1, 0, none⟩ = some (.int .u8 0) := D0.cell (show 0 < 3 by omega); have e1 : World.cell? _ ⟨w.heap.size + 1, 1, none⟩ = some (.int .u8 0) := D0.cell (show 1 < 3 by omega); have e2 : World.cell? _ ⟨w.heap.size + 1, 2, none⟩ = some (.int .u8 0) := D0.cell (show 2 < 3 by omega))
        | (refine wpList_store_row rfl 50 (.tmp 4) (.tmp 24) rfl w.heap.size _ rfl rfl _ _ (R0.drewM k9) infoDg (by rw [rowOf_size]; rfl) (by simp [Value.oneCell']) ?_))
      exact bodyPost_ret (results_cell_tmp Tryz.results250 _ _ w.heap.size 50 _ (0, 0) _ _ rfl rfl ((R0.drewM k9).setRow (d3 0 0 0)) Tryz.underlying50 rfl infoDg) rfl (RPost.no HR.out ⟨_, _, _, _, rfl, _, _, rfl⟩ ((B0.drewN k9).setRow (Nat.le_refl _) _))
    | [x], h, h0 =>
      have HR : Hid (dgP2 1 [x] = none) := rfl
      go_enter Tryz.func250, Tryz.ntmps250
      go_wp2_with fail
      rw [HW0.out]
      refine wp_loop_rounds 2 ?_
      rw [rounds_succ]
      go_wp2_with (go_at_call 247; refine (next_cons rb g _ _ x ([]) _ h0).mono ?_; rintro e w1 ⟨rfl, hr1, hb1, hs1⟩; have D1q := D0.but hb1 n2; have c1 := D1q.cell (show 0 < 3 by omega); have f1 := D1q.free 0)
      have D1 := (D1q.set 0 (.int .u8 x)).congr (f' := d3 x 0 0) (fun j hj => by match j, hj with | 0, _ => rfl | 1, _ => rfl | 2, _ => rfl)
      have R1 := (R0.but hb1 n1).far (fun e => n4 e.symm) 0 (.int .u8 x)
      have hr1' := hr1.set n2 n3 0 (.int .u8 x)
      have B1 : But (fun x => x = rb) w _ := (B0.trans hb1).setCell (p := ⟨w.heap.size + 1, 0, none⟩) (Or.inr (Nat.le_succ _)) (.int .u8 x)
      have hS1 := sents_but hS B1 hg9
      clear D1q c1 f1
      generalize w1.setCell ⟨w.heap.size + 1, 0, none⟩ (.int .u8 x) = u1 at *
      rw [rounds_succ]
      obtain ⟨-, -, -, -, -, ⟨aS, sS⟩, -, -, -⟩ := hS1
      go_wp2_with (first
        | (go_at_call 247; refine (next_nil rb g _ _ _ hr1' aS sS).mono ?_; rintro e w9 ⟨rfl, k9, rfl⟩; have e0 : World.cell? _ ⟨w.heap.size + 1, 0, none⟩ = some (.int .u8 x) := D1.cell (show 0 < 3 by omega); have e1 : World.cell? _ ⟨w.heap.size + 1, 1, none⟩ = some (.int .u8 0) := D1.cell (show 1 < 3 by omega); have e2 : World.cell? _ ⟨w.heap.size + 1, 2, none⟩ = some (.int .u8 0) := D1.cell (show 2 < 3 by omega))
        | (refine wpList_store_row rfl 50 (.tmp 4) (.tmp 24) rfl w.heap.size _ rfl rfl _ _ (R1.drewM k9) infoDg (by rw [rowOf_size]; rfl) (by simp [Value.oneCell']) ?_))
      exact bodyPost_ret (results_cell_tmp Tryz.results250 _ _ w.heap.size 50 _ (0, 0) _ _ rfl rfl ((R1.drewM k9).setRow (d3 x 0 0)) Tryz.underlying50 rfl infoDg) rfl (RPost.no HR.out ⟨_, _, _, _, rfl, _, _, rfl⟩ ((B1.drewN k9).setRow (Nat.le_refl _) _))
    | [x, y], h, h0 =>
      have HR : Hid (dgP2 1 [x, y] = none) := rfl
      go_enter Tryz.func250, Tryz.ntmps250
      go_wp2_with fail
      rw [HW0.out]
      refine wp_loop_rounds 3 ?_
      rw [rounds_succ]
      go_wp2_with (go_at_call 247; refine (next_cons rb g _ _ x ([y]) _ h0).mono ?_; rintro e w1 ⟨rfl, hr1, hb1, hs1⟩; have D1q := D0.but hb1 n2; have c1 := D1q.cell (show 0 < 3 by omega); have f1 := D1q.free 0)
      have D1 := (D1q.set 0 (.int .u8 x)).congr (f' := d3 x 0 0) (fun j hj => by match j, hj with | 0, _ => rfl | 1, _ => rfl | 2, _ => rfl)
      have R1 := (R0.but hb1 n1).far (fun e => n4 e.symm) 0 (.int .u8 x)
      have hr1' := hr1.set n2 n3 0 (.int .u8 x)
      have B1 : But (fun x => x = rb) w _ := (B0.trans hb1).setCell (p := ⟨w.heap.size + 1, 0, none⟩) (Or.inr (Nat.le_succ _)) (.int .u8 x)
      have hS1 := sents_but hS B1 hg9
      clear D1q c1 f1
      generalize w1.setCell ⟨w.heap.size + 1, 0, none⟩ (.int .u8 x) = u1 at *
      rw [rounds_succ]
      go_wp2_with (go_at_call 247; refine (next_cons rb g _ _ y ([]) _ hr1').mono ?_; rintro e w2 ⟨rfl, hr2, hb2, hs2⟩; have D2q := D1.but hb2 n2; have c2 := D2q.cell (show 1 < 3 by omega); have f2 := D2q.free 1)
      have D2 := (D2q.set 1 (.int .u8 y)).congr (f' := d3 x y 0) (fun j hj => by match j, hj with | 0, _ => rfl | 1, _ => rfl | 2, _ => rfl)
      have R2 := (R1.but hb2 n1).far (fun e => n4 e.symm) 1 (.int .u8 y)
      have hr2' := hr2.set n2 n3 1 (.int .u8 y)
      have B2 : But (fun x => x = rb) w _ := (B1.trans hb2).setCell (p := ⟨w.heap.size + 1, 1, none⟩) (Or.inr (Nat.le_succ _)) (.int .u8 y)
      have hS2 := sents_but hS B2 hg9
      clear D2q c2 f2
      generalize w2.setCell ⟨w.heap.size + 1, 1, none⟩ (.int .u8 y) = u2 at *
      rw [rounds_succ]
      obtain ⟨-, -, -, -, -, ⟨aS, sS⟩, -, -, -⟩ := hS2
      go_wp2_with (first
        | (go_at_call 247; refine (next_nil rb g _ _ _ hr2' aS sS).mono ?_; rintro e w9 ⟨rfl, k9, rfl⟩; have e0 : World.cell? _ ⟨w.heap.size + 1, 0, none⟩ = some (.int .u8 x) := D2.cell (show 0 < 3 by omega); have e1 : World.cell? _ ⟨w.heap.size + 1, 1, none⟩ = some (.int .u8 y) := D2.cell (show 1 < 3 by omega); have e2 : World.cell? _ ⟨w.heap.size + 1, 2, none⟩ = some (.int .u8 0) := D2.cell (show 2 < 3 by omega))
        | (refine wpList_store_row rfl 50 (.tmp 4) (.tmp 24) rfl w.heap.size _ rfl rfl _ _ (R2.drewM k9) infoDg (by rw [rowOf_size]; rfl) (by simp [Value.oneCell']) ?_))
      exact bodyPost_ret (results_cell_tmp Tryz.results250 _ _ w.heap.size 50 _ (0, 0) _ _ rfl rfl ((R2.drewM k9).setRow (d3 x y 0)) Tryz.underlying50 rfl infoDg) rfl (RPost.no HR.out ⟨_, _, _, _, rfl, _, _, rfl⟩ ((B2.drewN k9).setRow (Nat.le_refl _) _))
    | x :: y :: z :: l, h, h0 =>
      have HR : Hid (dgP2 1 (x :: y :: z :: l) = some ((x, y, z), l)) := rfl
      go_enter Tryz.func250, Tryz.ntmps250
      go_wp2_with fail
      rw [HW0.out]
      refine wp_loop_rounds 4 ?_
      rw [rounds_succ]
      go_wp2_with (go_at_call 247; refine (next_cons rb g _ _ x (y :: z :: l) _ h0).mono ?_; rintro e w1 ⟨rfl, hr1, hb1, hs1⟩; have D1q := D0.but hb1 n2; have c1 := D1q.cell (show 0 < 3 by omega); have f1 := D1q.free 0)
      have D1 := (D1q.set 0 (.int .u8 x)).congr (f' := d3 x 0 0) (fun j hj => by match j, hj with | 0, _ => rfl | 1, _ => rfl | 2, _ => rfl)
      have R1 := (R0.but hb1 n1).far (fun e => n4 e.symm) 0 (.int .u8 x)
      have hr1' := hr1.set n2 n3 0 (.int .u8 x)
      have B1 : But (fun x => x = rb) w _ := (B0.trans hb1).setCell (p := ⟨w.heap.size + 1, 0, none⟩) (Or.inr (Nat.le_succ _)) (.int .u8 x)
      have hS1 := sents_but hS B1 hg9
      clear D1q c1 f1
      generalize w1.setCell ⟨w.heap.size + 1, 0, none⟩ (.int .u8 x) = u1 at *
      rw [rounds_succ]
      go_wp2_with (go_at_call 247; refine (next_cons rb g _ _ y (z :: l) _ hr1').mono ?_; rintro e w2 ⟨rfl, hr2, hb2, hs2⟩; have D2q := D1.but hb2 n2; have c2 := D2q.cell (show 1 < 3 by omega); have f2 := D2q.free 1)
      have D2 := (D2q.set 1 (.int .u8 y)).congr (f' := d3 x y 0) (fun j hj => by match j, hj with | 0, _ => rfl | 1, _ => rfl | 2, _ => rfl)
      have R2 := (R1.but hb2 n1).far (fun e => n4 e.symm) 1 (.int .u8 y)
      have hr2' := hr2.set n2 n3 1 (.int .u8 y)
      have B2 : But (fun x => x = rb) w _ := (B1.trans hb2).setCell (p := ⟨w.heap.size + 1, 1, none⟩) (Or.inr (Nat.le_succ _)) (.int .u8 y)
      have hS2 := sents_but hS B2 hg9
      clear D2q c2 f2
      generalize w2.setCell ⟨w.heap.size + 1, 1, none⟩ (.int .u8 y) = u2 at *
      rw [rounds_succ]
      go_wp2_with (go_at_call 247; refine (next_cons rb g _ _ z (l) _ hr2').mono ?_; rintro e w3 ⟨rfl, hr3, hb3, hs3⟩; have D3q := D2.but hb3 n2; have c3 := D3q.cell (show 2 < 3 by omega); have f3 := D3q.free 2)
      have D3 := (D3q.set 2 (.int .u8 z)).congr (f' := d3 x y z) (fun j hj => by match j, hj with | 0, _ => rfl | 1, _ => rfl | 2, _ => rfl)
      have R3 := (R2.but hb3 n1).far (fun e => n4 e.symm) 2 (.int .u8 z)
      have hr3' := hr3.set n2 n3 2 (.int .u8 z)
      have B3 : But (fun x => x = rb) w _ := (B2.trans hb3).setCell (p := ⟨w.heap.size + 1, 2, none⟩) (Or.inr (Nat.le_succ _)) (.int .u8 z)
      have hS3 := sents_but hS B3 hg9
      clear D3q c3 f3
      generalize w3.setCell ⟨w.heap.size + 1, 2, none⟩ (.int .u8 z) = u3 at *
      rw [rounds_succ]
      have e0 : World.cell? _ ⟨w.heap.size + 1, 0, none⟩ = some (.int .u8 x) := D3.cell (show 0 < 3 by omega)
      have e1 : World.cell? _ ⟨w.heap.size + 1, 1, none⟩ = some (.int .u8 y) := D3.cell (show 1 < 3 by omega)
      have e2 : World.cell? _ ⟨w.heap.size + 1, 2, none⟩ = some (.int .u8 z) := D3.cell (show 2 < 3 by omega)
      go_wp2_with (refine wpList_store_row rfl 50 (.tmp 4) (.tmp 30) rfl w.heap.size _ rfl rfl _ _ R3 infoDg (by rw [rowOf_size]; rfl) (by simp [Value.oneCell']) ?_)
      exact bodyPost_ret (results_cell_tmp Tryz.results250 _ _ w.heap.size 50 _ (0, 0) _ _ rfl rfl (R3.setRow (d3 x y z)) Tryz.underlying50 rfl infoDg) rfl (RPost.yes HR.out rfl (hr3'.setRow n1 (fun e => n3q e) _) (B3.setRow (Nat.le_refl _) _))
  · have hk' : (k != 1) = true := by simpa using hk
    have HR : dgP2 k l = some ((0, 0, 0), l) := by unfold dgP2 dgP; rw [if_neg hk]; rfl
    generalize dgP2 k l = R at *
    go_enter Tryz.func250, Tryz.ntmps250
    go_wp2_with fail
    rw [HW0.out]
    exact bodyPost_ret (results_cell_tmp Tryz.results250 _ _ w.heap.size 50 _ (0, 0) _ _ rfl rfl R0 Tryz.underlying50 rfl infoDg) rfl (RPost.yes HR rfl h0 B0)
end Go.Proofs.YtgccjefbedpmpaaGreatDoor

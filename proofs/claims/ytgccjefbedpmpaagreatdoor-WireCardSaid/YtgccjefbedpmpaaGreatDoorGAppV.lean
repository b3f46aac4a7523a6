import Derived.Test.YtgccjefbedpmpaaGreatDoorGRSum
import Derived.Test.YtgccjefbedpmpaaGreatDoorGMix
import Derived.Test.YtgccjefbedpmpaaGreatDoorGRefIn
import Derived.Test.YtgccjefbedpmpaaGreatDoorGHold
import Derived.Maps.AppendAt
import Derived.Test.YtgccjefbedpmpaaGreatDoorGSum
import Derived.Test.YtgccjefbedpmpaaGreatDoorZCodS
namespace Go.Proofs.YtgccjefbedpmpaaGreatDoor
open Go.RowKit
/-- A list of bytes of one's own, in a block from B on. -/
def OwnB (w : World) (B : Nat) (v : Value) (l : List Int) : Prop := w.ownsRow B 5 1 v l.length (u8s l)
theorem OwnB.ge {w : World} {B : Nat} {v : Value} {l : List Int} (h : OwnB w B v l) : ∀ g, v.ownBlock = some g → B ≤ g := fun g hg => (h.lt g hg).1
/-- What an append to v leaves: v's own block, and new ones, are all that has turned; v' lies there. -/
structure AppR (v v' : Value) (w w' : World) : Prop where
  but : But (fun b => v.ownBlock = some b) w w'
  lies : ∀ g, v'.ownBlock = some g → v.ownBlock = some g ∨ w.heap.size ≤ g
theorem AppR.refl (v : Value) (w : World) : AppR v v w w := ⟨But.refl _ _, fun _ e => Or.inl e⟩
theorem AppR.trans {a b c : Value} {w w1 w2 : World} (h : AppR a b w w1) (k : AppR b c w1 w2) : AppR a c w w2 := by
  have hs := h.but.size
  refine ⟨⟨Nat.le_trans hs k.but.size, k.but.os.trans h.but.os, k.but.tape.trans h.but.tape, k.but.output.trans h.but.output, fun i hi hx => ?_⟩, fun g e => ?_⟩
  · refine (k.but.block i (by omega) fun e => ?_).trans (h.but.block i hi hx)
    rcases h.lies i e with e | e
    · exact hx e
    · omega
  · rcases k.lies g e with e | e
    · exact h.lies g e
    · exact Or.inr (by omega)
theorem AppR.alloc {v v' : Value} {w w1 : World} (h : AppR v v' w w1) (o : Obj) : AppR v v' w (w1.alloc o) := ⟨h.but.alloc o, h.lies⟩
theorem AppR.grow {v v1 v2 : Value} {w w1 w2 : World} (h : AppR v v1 w w1) (hg : w1.grownBy w2 v1.ownBlock) (hl : v2.ownBlock = v1.ownBlock ∨ v2.ownBlock = some w1.heap.size) : AppR v v2 w w2 :=
  h.trans ⟨⟨hg.size, hg.os, hg.tape, hg.output, fun i hi hx => hg.block i hi fun e => hx e.symm⟩, fun g e => by
    rcases hl with hl | hl
    · exact Or.inl (hl ▸ e)
    · rw [hl] at e; cases e; exact Or.inr (Nat.le_refl _)⟩
theorem AppR.below {v v' : Value} {w w' : World} {B : Nat} {l : List Int} (h : AppR v v' w w') (hO : OwnB w B v l) (hB : B ≤ w.heap.size) : Below B w w' :=
  ⟨h.but.os, h.but.tape, h.but.output, h.but.size, fun i hi => h.but.block i (by omega) fun e => by have := hO.ge i e; omega⟩
set_option maxRecDepth 100000 in
set_option maxHeartbeats 1000000 in
theorem appVar_any (m : Nat) (hm : m < 18446744073709551616) (B : Nat) (v : Value) (l : List Int) (w : World) (hB : B ≤ w.heap.size) (hl : l.length + 10 ≤ 140737488355328) (hO : OwnB w B v l) :
    Calls Tryz.prog 181 #[v, .int .u64 m] w fun e w' => ∃ v', e = .returned v' ∧ OwnB w' B v' (l ++ vn m) ∧ AppR v v' w w' := by
  obtain ⟨i0, hi, hz0, hz1, hz2⟩ := info_parts info5
  have hsz := (vn_size 9 m (by omega)).2
  go_enter Tryz.func181, Tryz.ntmps181
  go_wp2_with fail
  go_loopw [0, 1] (fun vv nv wr => ∃ (k : Nat) (l1 : List Int), nv = .int .u64 k ∧ k ≤ m ∧ l1 ++ vn k = l ++ vn m ∧ OwnB wr B vv l1 ∧ AppR v vv w wr) (fun _ nv _ => (intOf nv).toNat)
  case atStart => exact ⟨m, l, rfl, Nat.le_refl _, rfl, hO, AppR.refl _ _⟩
  case round =>
    obtain ⟨k, l1, rfl, hk, hs, hown, hbl⟩ := hrel
    have hle : (l1 ++ vn k).length ≤ 140737488355328 := by rw [hs, List.length_append]; omega
    rw [List.length_append] at hle
    have hBr := Nat.le_trans hB hbl.but.size
    by_cases hlt : k < 128
    · have lm : ¬ (128 : Int) ≤ (k : Int) := by omega
      rw [vn_lt hlt] at hs hle
      have hle1 : l1.length + 1 ≤ 140737488355328 := by simpa using hle
      have Hs : Hid (l1 ++ [(k : Int)] = l ++ vn m) := hs
      clear hs hle
      go_wp2_with (at_builtin; refine wpList_append_own_at _ rfl (.tmp 16) (.tmp 19) 59 rfl B 5 i0 (.int .u8 0) 1 1 Tryz.underlying59 hi hz0 hz1 hz2 rfl (by decide) _ l1.length (u8s l1) rfl (hown.alloc _) ⟨wr.heap.size, 0, none⟩ 1 1 (u8s [(k : Int)]) rfl rfl ?hn (u8s_one _) (by unfold maxLen; omega) (by omega) (by simp; omega) ?_; (case hn => exact cell_one_new _ _ _); intro v2 w2 ho2 hg2 _ hat2; have hb2 := (hbl.alloc _).grow hg2 hat2)
      go_ret
      refine ⟨_, rfl, ?_, hb2⟩
      rw [← Hs.out]
      unfold OwnB
      rw [List.length_append, u8s_append]
      exact ho2
    · have lm : (128 : Int) ≤ (k : Int) := by omega
      rw [vn_ge hlt] at hs hle
      have hle1 : l1.length + 1 ≤ 140737488355328 := by simp at hle; omega
      have hs' : (l1 ++ [128 + (k : Int) % 128]) ++ vn (k / 128) = l ++ vn m := by rw [← hs, List.append_assoc]; rfl
      have Hs : Hid ((l1 ++ [128 + (k : Int) % 128]) ++ vn (k / 128) = l ++ vn m) := hs'
      have e8 : IntKind.u8.wrap ((k : Int) % 128 + 128) = 128 + (k : Int) % 128 := by
        have : IntKind.u8.wrap ((k : Int) % 128 + 128) = ((k : Int) % 128 + 128) % 256 := by simp [IntKind.wrap, IntKind.bits, IntKind.signed]
        rw [this]; omega
      clear hs hle hs'
      go_wp2_with (at_builtin; refine wpList_append_own_at _ rfl (.tmp 7) (.tmp 12) 59 rfl B 5 i0 (.int .u8 0) 1 1 Tryz.underlying59 hi hz0 hz1 hz2 rfl (by decide) _ l1.length (u8s l1) rfl (hown.alloc _) ⟨wr.heap.size, 0, none⟩ 1 1 (u8s [128 + (k : Int) % 128]) rfl rfl ?hn (u8s_one _) (by unfold maxLen; omega) (by omega) (by simp; omega) ?_; (case hn => exact cell_one_new _ _ _); intro v2 w2 ho2 hg2 _ hat2; have hb2 := (hbl.alloc _).grow hg2 hat2)
      go_roundw
      case rel => exact ⟨k / 128, _, by go_num, by omega, Hs.out, by unfold OwnB; rw [List.length_append, u8s_append]; exact ho2, hb2⟩
      case measure => simp [intOf]; omega
end Go.Proofs.YtgccjefbedpmpaaGreatDoor
namespace Go.Proofs.YtgccjefbedpmpaaGreatDoor
open Go.RowKit
theorem op6A {w W w3 : World} {B : Nat} {v v' : Value} {l : List Int} {c0 c1 c2 c3 c4 c5 : Value} (hO : OwnB w B v l) (hb : AppR v v' W w3) (hW : W = w.alloc (.cells #[c0, c1, c2, c3, c4, c5] 43)) : w3.cell? ⟨w.heap.size, 0, none⟩ = some c0 ∧ w3.cell? ⟨w.heap.size, 1, none⟩ = some c1 ∧ w3.cell? ⟨w.heap.size, 2, none⟩ = some c2 ∧ w3.cell? ⟨w.heap.size, 3, none⟩ = some c3 ∧ w3.cell? ⟨w.heap.size, 4, none⟩ = some c4 ∧ w3.cell? ⟨w.heap.size, 5, none⟩ = some c5 := by
  subst hW
  have e := hb.but.block w.heap.size (by simp) fun e => by have := (hO.lt _ e).2; omega
  have k : ∀ j v, (#[c0, c1, c2, c3, c4, c5])[j]? = some v → w3.cell? ⟨w.heap.size, j, none⟩ = some v := fun j v h => (World.cell?_of_block (a := ⟨w.heap.size, j, none⟩) e).trans ((cell_of_row _ _ _ _ _ _ (heap_alloc_new w _)).trans h)
  exact ⟨k 0 _ rfl, k 1 _ rfl, k 2 _ rfl, k 3 _ rfl, k 4 _ rfl, k 5 _ rfl⟩
theorem appVar_int (m : Int) (h0 : 0 ≤ m) (h1 : m < 18446744073709551616) (B : Nat) (v : Value) (l : List Int) (w : World) (hB : B ≤ w.heap.size) (hl : l.length + 10 ≤ 140737488355328) (hO : OwnB w B v l) :
    Calls Tryz.prog 181 #[v, .int .u64 m] w fun e w' => ∃ v', e = .returned v' ∧ OwnB w' B v' (l ++ vn m.toNat) ∧ AppR v v' w w' := by
  have := appVar_any m.toNat (by omega) B v l w hB hl hO
  rw [Int.toNat_of_nonneg h0] at this
  exact this
set_option maxRecDepth 100000 in
set_option maxHeartbeats 1000000 in
theorem appOp_any (o : Opn) (ho : OpW o) (hk : o.kd = 1 ∨ o.kd = 2) (B : Nat) (v : Value) (l : List Int) (w : World) (hB : B ≤ w.heap.size) (hl : l.length + 100 ≤ 140737488355328) (hO : OwnB w B v l) :
    Calls Tryz.prog 184 #[v, .agg #[.int .i64 o.kd, .int .u32 o.cl, .int .u32 o.ck, .int .u32 o.st, .int .u64 o.rf, .int .i32 o.ch]] w fun e w' => ∃ v', e = .returned v' ∧ OwnB w' B v' (l ++ opB o) ∧ AppR v v' w w' := by
  obtain ⟨kd, cl, ck, st, rf, ch⟩ := o
  obtain ⟨hkd, ⟨a1, b1⟩, ⟨a2, b2⟩, ⟨a3, b3⟩, ⟨a4, b4⟩, ⟨a5, b5, c5⟩⟩ := ho
  dsimp only at *
  obtain ⟨i0, hi, hz0, hz1, hz2⟩ := info_parts info5
  have s1 := (vn_size 9 cl.toNat (by omega)).2
  have s2 := (vn_size 9 ck.toNat (by omega)).2
  have s3 := (vn_size 9 st.toNat (by omega)).2
  have s4 := (vn_size 9 rf.toNat (by omega)).2
  have s5 := (vn_size 9 ch.toNat (by omega)).2
  have x1 : IntKind.u64.wrap cl = cl := u64r _ (by omega)
  have x2 : IntKind.u64.wrap ck = ck := u64r _ (by omega)
  have x3 : IntKind.u64.wrap st = st := u64r _ (by omega)
  have x5 : IntKind.u64.wrap ch = ch := u64r _ (by omega)
  rcases hk with rfl | rfl
  · have hZ : AppR v v w (w.alloc (.cells #[.int .i64 1, .int .u32 cl, .int .u32 ck, .int .u32 st, .int .u64 rf, .int .i32 ch] 43)) := (AppR.refl v w).alloc _
    go_enter Tryz.func184, Tryz.ntmps184
    go_wp2_with (first
      | (go_at_call 181; have hq := R5; clear hq; refine (appVar_int ch a5 (by omega) B v5 (((((l ++ [1]) ++ vn cl.toNat) ++ vn ck.toNat) ++ vn st.toNat) ++ vn rf.toNat) w5 (Nat.le_trans hB (Nat.le_trans (by simp) R5.but.size)) (by simp only [List.length_append, List.length_cons, List.length_nil]; omega) ho5).mono ?_; rintro e w6 ⟨v6, rfl, ho6, r6⟩; have R6 := R5.trans r6; obtain ⟨y60, y61, y62, y63, y64, y65⟩ := op6A hO R6 rfl)
      | (go_at_call 181; have hq := R4; clear hq; refine (appVar_int rf a4 (by omega) B v4 ((((l ++ [1]) ++ vn cl.toNat) ++ vn ck.toNat) ++ vn st.toNat) w4 (Nat.le_trans hB (Nat.le_trans (by simp) R4.but.size)) (by simp only [List.length_append, List.length_cons, List.length_nil]; omega) ho4).mono ?_; rintro e w5 ⟨v5, rfl, ho5, r5⟩; have R5 := R4.trans r5; obtain ⟨y50, y51, y52, y53, y54, y55⟩ := op6A hO R5 rfl)
      | (go_at_call 181; have hq := R3; clear hq; refine (appVar_int st a3 (by omega) B v3 (((l ++ [1]) ++ vn cl.toNat) ++ vn ck.toNat) w3 (Nat.le_trans hB (Nat.le_trans (by simp) R3.but.size)) (by simp only [List.length_append, List.length_cons, List.length_nil]; omega) ho3).mono ?_; rintro e w4 ⟨v4, rfl, ho4, r4⟩; have R4 := R3.trans r4; obtain ⟨y40, y41, y42, y43, y44, y45⟩ := op6A hO R4 rfl)
      | (go_at_call 181; have hq := R2; clear hq; refine (appVar_int ck a2 (by omega) B v2 ((l ++ [1]) ++ vn cl.toNat) w2 (Nat.le_trans hB (Nat.le_trans (by simp) R2.but.size)) (by simp only [List.length_append, List.length_cons, List.length_nil]; omega) ho2).mono ?_; rintro e w3 ⟨v3, rfl, ho3, r3⟩; have R3 := R2.trans r3; obtain ⟨y30, y31, y32, y33, y34, y35⟩ := op6A hO R3 rfl)
      | (go_at_call 181; refine (appVar_int cl a1 (by omega) B v1 (l ++ [1]) w1 (Nat.le_trans hB (Nat.le_trans (by simp) R1.but.size)) (by simp only [List.length_append, List.length_cons, List.length_nil]; omega) ho1).mono ?_; rintro e w2 ⟨v2, rfl, ho2, r2⟩; have R2 := R1.trans r2; obtain ⟨y20, y21, y22, y23, y24, y25⟩ := op6A hO R2 rfl)
      | (at_builtin; refine wpList_append_own_at _ rfl (.tmp 5) (.tmp 9) 59 rfl B 5 i0 (.int .u8 0) 1 1 Tryz.underlying59 hi hz0 hz1 hz2 rfl (by decide) v l.length (u8s l) rfl ((World.ownsRow.alloc hO _).alloc _) ⟨w.heap.size + 1, 0, none⟩ 1 1 (u8s [1]) rfl rfl ?hn (u8s_one _) (by unfold maxLen; omega) (by omega) (by simp; omega) ?_; (case hn => have := cell_one_new (w.alloc (.cells #[.int .i64 1, .int .u32 cl, .int .u32 ck, .int .u32 st, .int .u64 rf, .int .i32 ch] 43)) (.int .u8 1) 5; simpa [u8s] using this); intro v1 w1 hq1 hg1 _ hat1; have R1 := ((AppR.refl v (w.alloc (.cells #[.int .i64 1, .int .u32 cl, .int .u32 ck, .int .u32 st, .int .u64 rf, .int .i32 ch] 43))).alloc _).grow hg1 hat1; have ho1 : OwnB w1 B v1 (l ++ [1]) := (by unfold OwnB; rw [List.length_append, u8s_append]; exact hq1); obtain ⟨y10, y11, y12, y13, y14, y15⟩ := op6A hO R1 rfl))
    go_ret
    refine ⟨_, rfl, ?_, hZ.trans R6⟩
    have e : ((((((l ++ [1]) ++ vn cl.toNat) ++ vn ck.toNat) ++ vn st.toNat) ++ vn rf.toNat) ++ vn ch.toNat) = l ++ opB ⟨1, cl, ck, st, rf, ch⟩ := by simp [opB, List.append_assoc]
    rw [← e]; exact ho6
  · obtain rfl : ch = 0 := c5 (by decide)
    have hZ : AppR v v w (w.alloc (.cells #[.int .i64 2, .int .u32 cl, .int .u32 ck, .int .u32 st, .int .u64 rf, .int .i32 0] 43)) := (AppR.refl v w).alloc _
    go_enter Tryz.func184, Tryz.ntmps184
    go_wp2_with (first
      | (go_at_call 181; have hq := R4; clear hq; refine (appVar_int rf a4 (by omega) B v4 ((((l ++ [2]) ++ vn cl.toNat) ++ vn ck.toNat) ++ vn st.toNat) w4 (Nat.le_trans hB (Nat.le_trans (by simp) R4.but.size)) (by simp only [List.length_append, List.length_cons, List.length_nil]; omega) ho4).mono ?_; rintro e w5 ⟨v5, rfl, ho5, r5⟩; have R5 := R4.trans r5; obtain ⟨y50, y51, y52, y53, y54, y55⟩ := op6A hO R5 rfl)
      | (go_at_call 181; have hq := R3; clear hq; refine (appVar_int st a3 (by omega) B v3 (((l ++ [2]) ++ vn cl.toNat) ++ vn ck.toNat) w3 (Nat.le_trans hB (Nat.le_trans (by simp) R3.but.size)) (by simp only [List.length_append, List.length_cons, List.length_nil]; omega) ho3).mono ?_; rintro e w4 ⟨v4, rfl, ho4, r4⟩; have R4 := R3.trans r4; obtain ⟨y40, y41, y42, y43, y44, y45⟩ := op6A hO R4 rfl)
      | (go_at_call 181; have hq := R2; clear hq; refine (appVar_int ck a2 (by omega) B v2 ((l ++ [2]) ++ vn cl.toNat) w2 (Nat.le_trans hB (Nat.le_trans (by simp) R2.but.size)) (by simp only [List.length_append, List.length_cons, List.length_nil]; omega) ho2).mono ?_; rintro e w3 ⟨v3, rfl, ho3, r3⟩; have R3 := R2.trans r3; obtain ⟨y30, y31, y32, y33, y34, y35⟩ := op6A hO R3 rfl)
      | (go_at_call 181; refine (appVar_int cl a1 (by omega) B v1 (l ++ [2]) w1 (Nat.le_trans hB (Nat.le_trans (by simp) R1.but.size)) (by simp only [List.length_append, List.length_cons, List.length_nil]; omega) ho1).mono ?_; rintro e w2 ⟨v2, rfl, ho2, r2⟩; have R2 := R1.trans r2; obtain ⟨y20, y21, y22, y23, y24, y25⟩ := op6A hO R2 rfl)
      | (at_builtin; refine wpList_append_own_at _ rfl (.tmp 5) (.tmp 9) 59 rfl B 5 i0 (.int .u8 0) 1 1 Tryz.underlying59 hi hz0 hz1 hz2 rfl (by decide) v l.length (u8s l) rfl ((World.ownsRow.alloc hO _).alloc _) ⟨w.heap.size + 1, 0, none⟩ 1 1 (u8s [2]) rfl rfl ?hn (u8s_one _) (by unfold maxLen; omega) (by omega) (by simp; omega) ?_; (case hn => have := cell_one_new (w.alloc (.cells #[.int .i64 2, .int .u32 cl, .int .u32 ck, .int .u32 st, .int .u64 rf, .int .i32 0] 43)) (.int .u8 2) 5; simpa [u8s] using this); intro v1 w1 hq1 hg1 _ hat1; have R1 := ((AppR.refl v (w.alloc (.cells #[.int .i64 2, .int .u32 cl, .int .u32 ck, .int .u32 st, .int .u64 rf, .int .i32 0] 43))).alloc _).grow hg1 hat1; have ho1 : OwnB w1 B v1 (l ++ [2]) := (by unfold OwnB; rw [List.length_append, u8s_append]; exact hq1); obtain ⟨y10, y11, y12, y13, y14, y15⟩ := op6A hO R1 rfl))
    go_ret
    refine ⟨_, rfl, ?_, hZ.trans R5⟩
    have e : (((((l ++ [2]) ++ vn cl.toNat) ++ vn ck.toNat) ++ vn st.toNat) ++ vn rf.toNat) = l ++ opB ⟨2, cl, ck, st, rf, 0⟩ := by simp [opB, List.append_assoc]
    rw [← e]; exact ho5
end Go.Proofs.YtgccjefbedpmpaaGreatDoor
namespace Go.Proofs.YtgccjefbedpmpaaGreatDoor
open Go.RowKit
theorem mB_son {l : List Int} (h : Byt l) {i : Nat} (hi : i < l.length) : mB (strOfNums l) i = l[i] := by
  rw [mB_dl, dl_son h, List.getElem?_eq_getElem hi]; rfl
theorem mB_r (s : ByteArray) (i : Nat) : 0 ≤ mB s i ∧ mB s i ≤ 255 := by
  unfold mB; have := (s.data.toList[i]?.getD 0).toNat_lt; omega
/-- sha.Sum of bytes that lie in memory, whatever room is behind them. -/
theorem shaB (b off cap : Nat) (l : List Int) (hl : Byt l) (w : World) (hg : 11 < w.heap.size) (hK : ∀ j, j < 64 → w.cell? ⟨11, j, none⟩ = some (.int .u32 (KK j))) (hc : ∀ i (h : i < l.length), w.cell? ⟨b, off + i, none⟩ = some (.int .u8 l[i])) (hb : b < w.heap.size) (hn : l.length ≤ 140737488355328) (hcap : l.length ≤ cap) :
    Calls Tryz.prog 117 #[.slice (some ⟨b, off, none⟩) l.length cap] w fun e w' => e = .returned (.agg (rowOf 32 fun n => .int .u8 (dig (strOfNums l) n))) ∧ Below w.heap.size w w' := by
  have e : l.length = 64 * (l.length / 64) + l.length % 64 := by omega
  have es : (strOfNums l).size = 64 * (l.length / 64) + l.length % 64 := by rw [strOfNums_size]; exact e
  by_cases hne : cap = 64 * (l.length / 64)
  · have hr : l.length % 64 = 0 := by omega
    have h := sum_eq b off (l.length / 64) KK (mB (strOfNums l)) w hg hK (mB_r _) (fun i hi => by rw [mB_son hl (show i < l.length by omega)]; exact hc i (by omega)) hb (by omega)
    have e2 : 64 * (l.length / 64) = l.length := by omega
    rw [e2] at h
    obtain rfl : cap = l.length := by omega
    refine h.mono ?_
    rintro x w' ⟨rfl, hb⟩
    rw [hr] at es
    exact ⟨by rw [rowOf_congr fun j hj => by rw [sum_same es (fun _ _ => rfl) j hj]]; rfl, hb⟩
  · have h := sum_ne b off cap (l.length / 64) (l.length % 64) KK (mB (strOfNums l)) w hg hK (mB_r _) (fun i hi => by rw [mB_son hl (show i < l.length by omega)]; exact hc i (by omega)) hb (by omega) (by omega) (by omega) hne
    rw [← e] at h
    refine h.mono ?_
    rintro x w' ⟨rfl, hb⟩
    exact ⟨by rw [rowOf_congr fun j hj => by rw [sum_same es (fun _ _ => rfl) j hj]]; rfl, hb⟩
theorem info3b : (Tryz.prog.info? 49).map (·.size) = some 3 := by kernel_rfl
set_option maxRecDepth 100000 in
set_option maxHeartbeats 1000000 in
theorem checkOf_any (v : Value) (s : ByteArray) (w : World) (H : ∀ W, Below w.heap.size w W → Calls Tryz.prog 117 #[v] W fun e w' => e = .returned (.agg (rowOf 32 fun n => .int .u8 (dig s n))) ∧ Below W.heap.size W w') :
    Calls Tryz.prog 185 #[v] w fun e w' => e = .returned (.agg #[.int .u8 (dig s 0), .int .u8 (dig s 1), .int .u8 (dig s 2)]) ∧ Below w.heap.size w w' := by
  have HH : Hid (∀ W, Below w.heap.size w W → Calls Tryz.prog 117 #[v] W fun e w' => e = .returned (.agg (rowOf 32 fun n => .int .u8 (dig s n))) ∧ Below W.heap.size W w') := H
  clear H
  go_enter Tryz.func185, Tryz.ntmps185
  have hz : Below w.heap.size w (w.alloc (.cells #[.int .u8 0, .int .u8 0, .int .u8 0] 49)) := (Below.refl _ _).alloc (Nat.le_refl _) _
  go_wp2_with (first
    | (go_at_call 117; refine (HH.out _ hz).mono ?_; rintro e w1 ⟨rfl, hb1⟩; have hr1 := RowIs.new w1 137 32 fun _ => .int .u8 0; have hD : RowIs (World.setRow (w1.alloc (.cells (rowOf 32 fun _ => .int .u8 0) 137)) w1.heap.size (rowOf 32 fun n => .int .u8 (dig s n))) w1.heap.size 137 32 (fun n => .int .u8 (dig s n)) := hr1.setRow _; have c0 := hD.cell (show 0 < 32 by omega); have c1 := hD.cell (show 1 < 32 by omega); have c2 := hD.cell (show 2 < 32 by omega); have hB3 : Below w1.heap.size w1 (World.setRow (w1.alloc (.cells (rowOf 32 fun _ => .int .u8 0) 137)) w1.heap.size (rowOf 32 fun n => .int .u8 (dig s n))) := below_setRow' ((Below.refl _ _).alloc (Nat.le_refl _) _) (Nat.le_refl _) _; have q3 := (RowIs.new w 49 3 fun _ => .int .u8 0).below hb1 (by simp); have r3 := q3.below hB3 q3.lt; rw [← z32lit] at c0 c1 c2)
    | (refine wpList_store_row rfl 137 (.tmp 3) (.tmp 5) rfl w1.heap.size _ rfl rfl _ _ hr1 (by rw [rowOf_size]; exact info90) (by rw [rowOf_size, rowOf_size]) (ints_one _ _ _) ?_)
    | (refine wpList_store_row rfl 49 (.tmp 2) (.tmp 12) rfl w.heap.size _ rfl rfl _ _ r3 info3b (by rw [rowOf_size]; rfl) (by simp [Value.oneCell']) ?_))
  have hB1 := hz.trans (hb1.mono hz.size)
  have hB4 := hB1.trans (hB3.mono hB1.size)
  exact bodyPost_ret (v := .agg #[.int .u8 (dig s 0), .int .u8 (dig s 1), .int .u8 (dig s 2)]) (results_cell_row Tryz.results185 _ _ w.heap.size 49 _ (0, 0) _ rfl (r3.setRow (fun j => match j with | 0 => .int .u8 (dig s 0) | 1 => .int .u8 (dig s 1) | _ => .int .u8 (dig s 2))) Tryz.underlying49 rfl info3b) rfl ⟨rfl, below_setRow' hB4 (Nat.le_refl _) _⟩
end Go.Proofs.YtgccjefbedpmpaaGreatDoor

import Derived.Test.YtgccjefbedpmpaaGreatDoorGWPack
import Derived.Test.YtgccjefbedpmpaaGreatDoorGCodU
import Derived.Test.YtgccjefbedpmpaaGreatDoorGRUnp
import Derived.Test.YtgccjefbedpmpaaGreatDoorGLeft
import Derived.Test.YtgccjefbedpmpaaGreatDoorGLess
import Derived.Test.YtgccjefbedpmpaaGreatDoorGScript
import Derived.Laws.CopyRow
import Derived.Test.YtgccjefbedpmpaaGreatDoorGFreeUS
import Derived.Test.YtgccjefbedpmpaaGreatDoorGFree
namespace Go.Proofs.YtgccjefbedpmpaaGreatDoor
open Go.RowKit
/-- The operation of zeros. -/
@[reducible] def oz : Opn := ⟨0, 0, 0, 0, 0, 0⟩
def ozs (n : Nat) : List Opn := List.replicate n oz
theorem ozs_len (n : Nat) : (ozs n).length = n := List.length_replicate
theorem opCs_len (os : List Opn) : (opCs os).length = os.length * 6 := by
  induction os with
  | nil => rfl
  | cons o os ih => rw [opCs, List.length_append, ih, List.length_cons]; simp; omega
theorem opCs_one (os : List Opn) : ∀ v ∈ opCs os, v.oneCell' = true := by
  induction os with
  | nil => intro v h; cases h
  | cons o os ih =>
    intro v h
    rw [opCs, List.mem_append] at h
    rcases h with h | h
    · simp only [List.mem_cons, List.not_mem_nil, or_false] at h
      rcases h with rfl | rfl | rfl | rfl | rfl | rfl <;> rfl
    · exact ih v h
theorem made_ops (n : Nat) : madeCells #[.int .i64 0, .int .u32 0, .int .u32 0, .int .u32 0, .int .u64 0, .int .i32 0] (n * 6) = (opCs (ozs n)).toArray := by
  refine Array.ext' (List.ext_getElem? fun k => ?_)
  by_cases hk : k < n * 6
  · have h1 : k / 6 < (ozs n).length := by rw [ozs_len]; omega
    have h2 := opCs_get (ozs n) h1 (j := k % 6) (by omega)
    rw [show k / 6 * 6 + k % 6 = k by omega] at h2
    rw [h2, Array.getElem?_toList, madeCells, Array.getElem?_map, Array.getElem?_eq_getElem (by simpa using hk), Array.getElem_range]
    have e : (ozs n)[k / 6] = oz := List.getElem_replicate ..
    rw [e]
    have h3 : k % 6 < 6 := by omega
    simp only [Option.map_some]
    show some ((#[Value.int .i64 0, .int .u32 0, .int .u32 0, .int .u32 0, .int .u64 0, .int .i32 0])[k % 6]!) = _
    generalize k % 6 = m at h3
    match m, h3 with
    | 0, _ => rfl
    | 1, _ => rfl
    | 2, _ => rfl
    | 3, _ => rfl
    | 4, _ => rfl
    | 5, _ => rfl
  · rw [List.getElem?_eq_none (by rw [Array.length_toList, size_madeCells]; omega), List.getElem?_eq_none (by rw [opCs_len, ozs_len]; omega)]
theorem infoO6 : (Tryz.prog.info? 43).map (·.size) = some 6 := by kernel_rfl
theorem make_ops (n : Nat) (c : Int) (hc : c = n) (hb : 40 * n ≤ 281474976710656) (w : World) :
    (Instr.makeSlice 32 (.int .i64 c) (.int .i64 c)).run Tryz.prog w = .ok (.slice (some ⟨w.heap.size, 0, none⟩) n n) (w.alloc (.cells (opCs (ozs n)).toArray 43)) := by
  subst hc
  have h := infoO
  cases hi : Tryz.prog.info? 43 with
  | none => rw [hi] at h; cases h
  | some i =>
    rw [hi] at h
    simp only [Option.map_some, Option.some.injEq, Prod.mk.injEq] at h
    obtain ⟨hz, hs, hby⟩ := h
    have hb' : (i.bytes : Int) * (n : Int) ≤ 281474976710656 := by
      rw [hby]; omega
    have := run_make (P := Tryz.prog) w 32 43 i _ Tryz.underlying32 hi hz .i64 .i64 (n : Int) (n : Int) (by omega) (by omega) hb' (by omega)
    rw [this, hs, Int.toNat_natCast]
    exact congrArg (fun c => Result.ok _ (w.alloc (.cells c 43))) (made_ops n)
theorem opsAt_cs {w : World} {g off : Nat} {os : List Opn} (h : OpsAt w g off os) : ∀ j v, (opCs os)[j]? = some v → w.cell? ((⟨g, off, none⟩ : Addr).add j) = some v := by
  intro j v hj
  have hl : j < (opCs os).length := (List.getElem?_eq_some_iff.1 hj).1
  rw [opCs_len] at hl
  have hi : j / 6 < os.length := by omega
  have h2 := opCs_get os hi (j := j % 6) (by omega)
  rw [show j / 6 * 6 + j % 6 = j by omega, hj] at h2
  have h3 := h (j / 6) hi (j % 6) (by omega)
  rw [add_none, h2, ← h3]
  congr 2
  omega
theorem copy_ops (os : List Opn) (a : Option Addr) (cap : Nat) (w : World) (hO : OpsIs w a os) :
    (Builtin.copy_ #[32, 32] 3 #[.slice (some ⟨w.heap.size, 0, none⟩) (os.length + 8) (os.length + 8), .slice a os.length cap]).run Tryz.prog (w.alloc (.cells (opCs (ozs (os.length + 8))).toArray 43)) = .ok (goInt os.length) (w.alloc (.cells (opCs (os ++ ozs 8)).toArray 43)) := by
  have hq := infoO6
  cases hi : Tryz.prog.info? 43 with
  | none => rw [hi] at hq; cases hq
  | some i =>
    have hs : i.size = 6 := by simpa [hi] using hq
    have hmin : Nat.min os.length (os.length + 8) = os.length := Nat.min_eq_left (by omega)
    have hz : ozs (os.length + 8) = ozs os.length ++ ozs 8 := by unfold ozs; rw [List.replicate_append_replicate]
    have hst := run_storeCells_at Tryz.prog w.heap.size 0 43 (opCs os) 0 (opCs (ozs (os.length + 8))).toArray (w.alloc (.cells (opCs (ozs (os.length + 8))).toArray 43)) (heap_alloc_new w _) (by rw [List.size_toArray, opCs_len, opCs_len, ozs_len]; omega) (opCs_one os)
    rw [World.setRow_alloc_new] at hst
    have e : (List.take (0 + 0) (opCs (ozs (os.length + 8))).toArray.toList ++ opCs os ++ List.drop (0 + 0 + (opCs os).length) (opCs (ozs (os.length + 8))).toArray.toList).toArray = (opCs (os ++ ozs 8)).toArray := by
      rw [opCs_app, hz, opCs_app]
      simp only [Nat.add_zero, List.take_zero, List.nil_append]
      rw [List.drop_append_of_le_length (by rw [opCs_len, opCs_len, ozs_len]; omega), List.drop_of_length_le (by rw [opCs_len, opCs_len, ozs_len]; omega), List.nil_append]
    rw [e] at hst
    rcases hO with rfl | ⟨g, off, rfl, hO⟩
    · have hl : ∀ (x : Addr), (loadCells x 0).run Tryz.prog (w.alloc (.cells (opCs (ozs (0 + 8))).toArray 43)) = .ok #[] (w.alloc (.cells (opCs (ozs (0 + 8))).toArray 43)) := fun x => by simpa using run_loadCells_list (P := Tryz.prog) _ x [] (by simp)
      cases a <;> simp [Builtin.copy_, run_underlying Tryz.underlying32, Builtin.lenOf, Builtin.firstCells, sizeOf, typeInfo, hi, storeCells, hl]
    · have hcs := fun j v (hj : (opCs os)[j]? = some v) => by
        have h1 := opsAt_cs hO j v hj
        exact (World.cell?_alloc_lt w (.cells (opCs (ozs (os.length + 8))).toArray 43) _ (block_lt_of_cell h1)).trans h1
      have hl := run_loadCells_list (P := Tryz.prog) (w.alloc (.cells (opCs (ozs (os.length + 8))).toArray 43)) ⟨g, off, none⟩ (opCs os) hcs
      rw [opCs_len] at hl
      simp [Builtin.copy_, run_underlying Tryz.underlying32, Builtin.lenOf, Builtin.firstCells, sizeOf, typeInfo, hi, hs, hmin, hl, hst]
theorem packL_len {f : Frm} (hok : okFrm f = true) (hT : FrmT f) : (packL f).length ≤ 100000 := by
  have hW := okFrm_w hok hT.t.lo hT.t.rf
  obtain ⟨k, ss, lo, hi, d0, d1, d2, os⟩ := f
  obtain ⟨⟨k1, k2⟩, ⟨a1, b1⟩, ⟨a2, b2, c2⟩, ⟨a3, b3, c3⟩, hd, ⟨n1, n2⟩, ho⟩ := hW
  dsimp only at *
  have s1 := (vn_size 9 ss.toNat (by omega)).2
  have s2 := (vn_size 9 lo.toNat (by omega)).2
  have s3 := (vn_size 9 hi.toNat (by omega)).2
  have s4 := osB_len os ho
  have e1 : (if k ≠ 5 then vn lo.toNat ++ vn hi.toNat else []).length ≤ 20 := by split; (· rw [List.length_append]; omega); (· simp)
  have e2 : (if k = 1 then [d0, d1, d2] else []).length ≤ 3 := by split <;> simp
  have e3 : (if 2 < k then (os.length : Int) :: osB os else []).length ≤ 20000 := by split; (· rw [List.length_cons]; omega); (· simp)
  have e4 : (chk (strOfNums (frB ⟨k, ss, lo, hi, d0, d1, d2, os⟩))).length = 3 := rfl
  unfold packL
  rw [List.length_append, e4]
  simp only [frB, List.length_cons, List.length_append] at *
  omega
/-- What both Packs answer of one frame is the same. -/
theorem pack_one (f : Frm) (hT : FrmT f) (hn : f.ops.length ≤ 9223372036854775807) : ∃ (L : List Int) (E : Int), L.length ≤ 100000 ∧
    (∀ W a cap, Env W → OpsIs W a f.ops → Calls Tryz.prog 30 #[f.val (.slice a f.ops.length cap)] W fun e w' => (∃ v, e = .returned (.tuple #[v, .int .i64 E]) ∧ OwnB w' W.heap.size v L) ∧ Below W.heap.size W w') ∧
    ∀ W a cap, OpsIs W a f.ops → Calls Tryz.prog 42 #[.agg (rowOf 72 fun j => .int .u32 (RV j)), f.val (.slice a f.ops.length cap)] W fun e w' => e = .returned (.tuple #[.string (strOfNums L), .int .i64 E]) ∧ Below W.heap.size W w' := by
  cases hok : okFrm f with
  | true => exact ⟨packL f, 0, packL_len hok hT, fun W a cap hE hO => kpack_good f a cap hT W hE hO hok, fun W a cap hO => rpack_good f a cap hT W hO hok⟩
  | false =>
    refine ⟨[], 8, Nat.zero_le _, fun W a cap hE hO => (kpack_bad f a cap hT W hE hO hok).mono ?_, fun W a cap hO => (rpack_bad f a cap hT hn W hO hok).mono ?_⟩
    · rintro e w' ⟨rfl, hb⟩
      exact ⟨⟨_, rfl, World.ownsRow_nil _ _ _ _⟩, hb⟩
    · rintro e w' ⟨rfl, hb⟩
      exact ⟨rfl, hb⟩
theorem conv_own {w : World} {B : Nat} {v : Value} {L : List Int} (h : OwnB w B v L) : (convert 59 9 v).run Tryz.prog w = .ok (.string (strOfNums L)) w := by
  by_cases hl : L = []
  · subst hl
    rcases h.2 with ⟨rfl, h0⟩ | ⟨g, cap, cur, rfl, h3, h4, h5, h6, h7, h8⟩
    · exact run_convert_bytes_nil w 59 5 Tryz.underlying59 Tryz.underlying5 0 0 _ Tryz.underlying9
    · exact run_convert_bytes_arg w 59 5 Tryz.underlying59 Tryz.underlying5 g 0 0 cap [] rfl (fun i hi => by omega) _ Tryz.underlying9
  · obtain ⟨g, cap, rfl, hc, hg, hcell⟩ := h.view hl
    exact run_convert_bytes_arg w 59 5 Tryz.underlying59 Tryz.underlying5 g 0 L.length cap L rfl (fun i hi => by rw [hcell i hi, List.getD_eq_getElem?_getD, List.getElem?_eq_getElem hi]; rfl) _ Tryz.underlying9
/-- What lies in memory behind both Packs. -/
structure PKS (w W : World) (wd : Nat) (vP vH : Value) (f8 : Nat → Value) (a : Option Addr) (os : List Opn) (v : Value) (L : List Int) : Prop where
  below : Below w.heap.size w W
  row : RowIs W wd 90 74 (wcell RV vP vH)
  fr : RowIs W w.heap.size 58 8 f8
  lst : OwnO W w.heap.size (.slice (some ⟨w.heap.size + 1, 0, none⟩) (os.length + 8) (os.length + 8)) (os ++ ozs 8)
  ops : OpsIs W a os
  own : OwnB W (w.heap.size + 2) v L
theorem PKS.kept {w W W2 : World} {wd : Nat} {vP vH : Value} {f8 : Nat → Value} {a : Option Addr} {os : List Opn} {v : Value} {L : List Int} (h : PKS w W wd vP vH f8 a os v L) (hb : Below W.heap.size W W2) : PKS w W2 wd vP vH f8 a os v L :=
  ⟨h.below.trans (hb.mono h.below.size), h.row.below hb h.row.lt, h.fr.below hb h.fr.lt, OwnO.keep h.lst hb, h.ops.below hb, h.own.keep hb⟩
theorem PKS.drew {w W : World} {wd : Nat} {vP vH : Value} {f8 : Nat → Value} {a : Option Addr} {os : List Opn} {v : Value} {L : List Int} (h : PKS w W wd vP vH f8 a os v L) : PKS w W.drew wd vP vH f8 a os v L :=
  ⟨h.below.drew, h.row.drew, h.fr.drew, own_frame h.lst fun _ _ => rfl, h.ops.elim Or.inl fun ⟨g, off, e, k⟩ => Or.inr ⟨g, off, e, k⟩, own_frame h.own fun _ _ => rfl⟩
/-- The list that was made, copied into, lies there. -/
theorem lst_new (w : World) (os : List Opn) (hn : os.length * 40 ≤ 140737488351232) : OwnO (w.alloc (.cells (opCs (os ++ ozs 8)).toArray 43)) w.heap.size (.slice (some ⟨w.heap.size, 0, none⟩) (os.length + 8) (os.length + 8)) (os ++ ozs 8) := by
  have hl : (os ++ ozs 8).length = os.length + 8 := by rw [List.length_append, ozs_len]
  refine ⟨?_, Or.inr ⟨w.heap.size, os.length + 8, (opCs (os ++ ozs 8)).toArray, ?_, Nat.le_refl _, heap_alloc_new w _, ?_, ?_, ?_, ?_⟩⟩
  · rw [opCs_len]
  · rw [hl]
  · rw [hl]; exact Nat.le_refl _
  · unfold maxLen; omega
  · rw [List.size_toArray, opCs_len, hl]
  · rw [hl, List.take_of_length_le]; rw [opCs_len, hl]; exact Nat.le_refl _
end Go.Proofs.YtgccjefbedpmpaaGreatDoor
namespace Go.Proofs.YtgccjefbedpmpaaGreatDoor
open Go.RowKit
theorem OpsIs.pre {w : World} {a : Option Addr} {x y : List Opn} (h : OpsIs w a (x ++ y)) : OpsIs w a x := by
  rcases h with h | ⟨g, off, e, h⟩
  · exact Or.inl (List.append_eq_nil_iff.1 h).1
  · refine Or.inr ⟨g, off, e, fun i hi j hj => ?_⟩
    have := h i (by rw [List.length_append]; omega) j hj
    rwa [List.getElem_append_left hi] at this
theorem bytes_raw {wa wk : World} {B : Nat} {v : Value} {L : List Int} (ho : OwnB wa B v L) (hk : wk = wa.alloc (.cells #[v, .slice none 0 0, .slice none 0 0, .int .i64 0] 161)) :
    HoldRaw wk wa.heap.size 0 v (.slice none 0 0) (.slice none 0 0) L.length 0 0 (u8s L) [] [] := by
  subst hk
  exact ⟨RowIs.new wa 161 4 (hold4 v (.slice none 0 0) (.slice none 0 0) 0), World.ownsRow.alloc (ho.base (Nat.zero_le _)) _, World.ownsRow_nil _ _ _ _, World.ownsRow_nil _ _ _ _⟩
theorem ownX_b {v : Value} {b : Nat} (h : ownX v (.slice none 0 0) (.slice none 0 0) b) : v.ownBlock = some b := by
  rcases h with e | e | e
  · exact e
  · cases e
  · cases e
theorem OwnB.form1 {w : World} {B : Nat} {v : Value} {L : List Int} (h : OwnB w B v L) : ∃ a c, v = .slice a L.length c := by
  rcases h.2 with ⟨e, h0⟩ | ⟨g, cap, cur, e, _⟩
  · exact ⟨none, 0, by rw [e, h0]⟩
  · exact ⟨_, _, e⟩
theorem OwnO.lt1 {w : World} {B g n c : Nat} {os : List Opn} (h : OwnO w B (.slice (some ⟨g, 0, none⟩) n c) os) : g < w.heap.size := (World.ownsRow.lt h g rfl).2
theorem PKS.at {w W : World} {wd : Nat} {vP vH : Value} {f8 : Nat → Value} {a : Option Addr} {os : List Opn} {v : Value} {L : List Int} (h : PKS w W wd vP vH f8 a os v L) {i : Nat} (hi : i < (os ++ ozs 8).length) : W.cell? ⟨w.heap.size + 1, i * 6, none⟩ = some (.int .i64 (os ++ ozs 8)[i].kd) ∧ W.cell? ⟨w.heap.size + 1, i * 6 + 1, none⟩ = some (.int .u32 (os ++ ozs 8)[i].cl) ∧ W.cell? ⟨w.heap.size + 1, i * 6 + 2, none⟩ = some (.int .u32 (os ++ ozs 8)[i].ck) ∧ W.cell? ⟨w.heap.size + 1, i * 6 + 3, none⟩ = some (.int .u32 (os ++ ozs 8)[i].st) ∧ W.cell? ⟨w.heap.size + 1, i * 6 + 4, none⟩ = some (.int .u64 (os ++ ozs 8)[i].rf) ∧ W.cell? ⟨w.heap.size + 1, i * 6 + 5, none⟩ = some (.int .i32 (os ++ ozs 8)[i].ch) := by
  rcases OwnO.is h.lst with e | ⟨g, off, e, k⟩
  · rw [e] at hi; cases hi
  · cases e
    have := k.cells hi
    simpa only [Nat.zero_add] using this
theorem PKS.cellsA {w W : World} {wd : Nat} {vP vH : Value} {f8 : Nat → Value} {a : Option Addr} {os : List Opn} {v : Value} {L : List Int} (h : PKS w W wd vP vH f8 a os v L) {i : Nat} (hi : i < os.length) : W.cell? ⟨w.heap.size + 1, i * 6, none⟩ = some (.int .i64 os[i].kd) ∧ W.cell? ⟨w.heap.size + 1, i * 6 + 1, none⟩ = some (.int .u32 os[i].cl) ∧ W.cell? ⟨w.heap.size + 1, i * 6 + 2, none⟩ = some (.int .u32 os[i].ck) ∧ W.cell? ⟨w.heap.size + 1, i * 6 + 3, none⟩ = some (.int .u32 os[i].st) ∧ W.cell? ⟨w.heap.size + 1, i * 6 + 4, none⟩ = some (.int .u64 os[i].rf) ∧ W.cell? ⟨w.heap.size + 1, i * 6 + 5, none⟩ = some (.int .i32 os[i].ch) := by
  have := h.at (i := i) (by rw [List.length_append]; omega)
  rwa [List.getElem_append_left hi] at this
theorem PKS.cellsB {w W : World} {wd : Nat} {vP vH : Value} {f8 : Nat → Value} {a : Option Addr} {os : List Opn} {v : Value} {L : List Int} (h : PKS w W wd vP vH f8 a os v L) {i : Nat} (hi : os.length ≤ i) (hl : i < os.length + 8) : W.cell? ⟨w.heap.size + 1, i * 6, none⟩ = some (.int .i64 0) ∧ W.cell? ⟨w.heap.size + 1, i * 6 + 1, none⟩ = some (.int .u32 0) ∧ W.cell? ⟨w.heap.size + 1, i * 6 + 2, none⟩ = some (.int .u32 0) ∧ W.cell? ⟨w.heap.size + 1, i * 6 + 3, none⟩ = some (.int .u32 0) ∧ W.cell? ⟨w.heap.size + 1, i * 6 + 4, none⟩ = some (.int .u64 0) ∧ W.cell? ⟨w.heap.size + 1, i * 6 + 5, none⟩ = some (.int .i32 0) := by
  have := h.at (i := i) (by rw [List.length_append, ozs_len]; exact hl)
  rw [List.getElem_append_right hi] at this
  have e : (ozs 8)[i - os.length]'(by rw [ozs_len]; omega) = oz := List.getElem_replicate ..
  rwa [e] at this
theorem PKS.cellsF {w W : World} {wd : Nat} {vP vH : Value} {f8 : Nat → Value} {g off : Nat} {os : List Opn} {v : Value} {L : List Int} (h : PKS w W wd vP vH f8 (some ⟨g, off, none⟩) os v L) {i : Nat} (hi : i < os.length) : W.cell? ⟨g, off + i * 6, none⟩ = some (.int .i64 os[i].kd) ∧ W.cell? ⟨g, off + i * 6 + 1, none⟩ = some (.int .u32 os[i].cl) ∧ W.cell? ⟨g, off + i * 6 + 2, none⟩ = some (.int .u32 os[i].ck) ∧ W.cell? ⟨g, off + i * 6 + 3, none⟩ = some (.int .u32 os[i].st) ∧ W.cell? ⟨g, off + i * 6 + 4, none⟩ = some (.int .u64 os[i].rf) ∧ W.cell? ⟨g, off + i * 6 + 5, none⟩ = some (.int .i32 os[i].ch) := by
  rcases h.ops with e | ⟨g', off', e, k⟩
  · rw [e] at hi; cases hi
  · cases e
    exact k.cells hi
set_option maxRecDepth 100000 in
set_option maxHeartbeats 1000000 in
theorem packed_any (f : Frm) (a : Option Addr) (cap : Nat) (hT : FrmT f) (hn : f.ops.length * 40 ≤ 140737488351232) (wd : Nat) (vP vH : Value) (F : Nat → Prop) (H : List Nat) (w : World) (hO : WOk w wd RV vP vH F H) (hH : (H.length + 8) * 8 ≤ 140737488355328) (hE : Env w) (hOp : OpsIs w a f.ops) :
    Calls Tryz.prog 127 #[.pointer (some ⟨wd, 0, none⟩), f.val (.slice a f.ops.length cap)] w fun e w' => e = .returned (.bool true) ∧ LeftN w w' wd vP vH H := by
  obtain ⟨L, E, hL, hK, hR⟩ := pack_one f hT (by omega)
  obtain ⟨k, ss, lo, hi, d0, d1, d2, os⟩ := f
  unfold Frm.val at *
  dsimp only at *
  have hz0 : Below w.heap.size w (w.alloc (.cells #[.int .i64 k, .int .u32 ss, .int .u64 lo, .int .u64 hi, .int .u8 d0, .int .u8 d1, .int .u8 d2, .slice a os.length cap] 58)) := (Below.refl _ _).alloc (Nat.le_refl _) _
  have hmk := make_ops (os.length + 8) ((os.length : Int) + 8) (by omega) (by omega)
  have hcp := copy_ops os a cap (w.alloc (.cells #[.int .i64 k, .int .u32 ss, .int .u64 lo, .int .u64 hi, .int .u8 d0, .int .u8 d1, .int .u8 d2, .slice a os.length cap] 58)) (hOp.below hz0)
  have hsz : (w.alloc (.cells #[.int .i64 k, .int .u32 ss, .int .u64 lo, .int .u64 hi, .int .u8 d0, .int .u8 d1, .int .u8 d2, .slice a os.length cap] 58)).heap.size = w.heap.size + 1 := by simp
  rw [hsz] at hcp
  have hmk0 := hmk (w.alloc (.cells #[.int .i64 k, .int .u32 ss, .int .u64 lo, .int .u64 hi, .int .u8 d0, .int .u8 d1, .int .u8 d2, .slice a os.length cap] 58))
  rw [hsz] at hmk0
  have hls := lst_new (w.alloc (.cells #[.int .i64 k, .int .u32 ss, .int .u64 lo, .int .u64 hi, .int .u8 d0, .int .u8 d1, .int .u8 d2, .slice a os.length cap] 58)) os hn
  rw [hsz] at hls
  have hz1 : Below w.heap.size w ((w.alloc (.cells #[.int .i64 k, .int .u32 ss, .int .u64 lo, .int .u64 hi, .int .u8 d0, .int .u8 d1, .int .u8 d2, .slice a os.length cap] 58)).alloc (.cells (opCs (os ++ ozs 8)).toArray 43)) := hz0.alloc (by rw [hsz]; omega) _
  have HW : Hid (WOk w wd RV vP vH F H ∧ (H.length + 8) * 8 ≤ 140737488355328) := ⟨hO, hH⟩
  have HP0 : Hid (∀ ob, Env (((w.alloc (.cells #[.int .i64 k, .int .u32 ss, .int .u64 lo, .int .u64 hi, .int .u8 d0, .int .u8 d1, .int .u8 d2, .slice a os.length cap] 58)).alloc (.cells (opCs (os ++ ozs 8)).toArray 43)).alloc ob) ∧ OpsIs (((w.alloc (.cells #[.int .i64 k, .int .u32 ss, .int .u64 lo, .int .u64 hi, .int .u8 d0, .int .u8 d1, .int .u8 d2, .slice a os.length cap] 58)).alloc (.cells (opCs (os ++ ozs 8)).toArray 43)).alloc ob) (some ⟨w.heap.size + 1, 0, none⟩) os) := fun ob => ⟨hE.below (hz1.alloc hz1.size ob), (OwnO.is (OwnO.keep hls (below1' _ ob))).pre⟩
  have HLS : Hid (OwnO ((w.alloc (.cells #[.int .i64 k, .int .u32 ss, .int .u64 lo, .int .u64 hi, .int .u8 d0, .int .u8 d1, .int .u8 d2, .slice a os.length cap] 58)).alloc (.cells (opCs (os ++ ozs 8)).toArray 43)) (w.heap.size + 1) (.slice (some ⟨w.heap.size + 1, 0, none⟩) (os.length + 8) (os.length + 8)) (os ++ ozs 8)) := hls
  have HN : Hid (os.length * 40 ≤ 140737488351232) := hn
  have HOp : Hid (OpsIs w a os) := hOp
  have HZ1 : Hid (Below w.heap.size w ((w.alloc (.cells #[.int .i64 k, .int .u32 ss, .int .u64 lo, .int .u64 hi, .int .u8 d0, .int .u8 d1, .int .u8 d2, .slice a os.length cap] 58)).alloc (.cells (opCs (os ++ ozs 8)).toArray 43))) := hz1
  have HK : Hid (∀ W a cap, Env W → OpsIs W a os → Calls Tryz.prog 30 #[.agg #[.int .i64 k, .int .u32 ss, .int .u64 lo, .int .u64 hi, .int .u8 d0, .int .u8 d1, .int .u8 d2, .slice a os.length cap]] W fun e w' => (∃ v, e = .returned (.tuple #[v, .int .i64 E]) ∧ OwnB w' W.heap.size v L) ∧ Below W.heap.size W w') := hK
  have HR : Hid (∀ W a cap, OpsIs W a os → Calls Tryz.prog 42 #[.agg (rowOf 72 fun j => .int .u32 (RV j)), .agg #[.int .i64 k, .int .u32 ss, .int .u64 lo, .int .u64 hi, .int .u8 d0, .int .u8 d1, .int .u8 d2, .slice a os.length cap]] W fun e w' => e = .returned (.tuple #[.string (strOfNums L), .int .i64 E]) ∧ Below W.heap.size W w') := hR
  have y7 : ((w.alloc (.cells #[.int .i64 k, .int .u32 ss, .int .u64 lo, .int .u64 hi, .int .u8 d0, .int .u8 d1, .int .u8 d2, .slice a os.length cap] 58)).alloc (.cells (opCs (os ++ ozs 8)).toArray 43)).cell? ⟨w.heap.size, 7, none⟩ = some (.slice a os.length cap) := (World.cell?_alloc_lt _ _ ⟨w.heap.size, 7, none⟩ (by simp)).trans ((cell_of_row _ _ _ _ _ _ (heap_alloc_new w _)).trans rfl)
  have e1 : ((os.length : Int)).toNat = os.length := by omega
  have e2 : (os.length : Int) ≤ (os.length : Int) + 8 := by omega
  clear hK hR hls hE hOp hT hO hH hz1 hmk
  go_enter Tryz.func127, Tryz.ntmps127
  go_wp2_with (go_at_call 30; refine (HK.out _ _ _ (HP0.out _).1 (HP0.out _).2).mono ?_; rintro e w5 ⟨⟨v, rfl, hv⟩, hb5⟩)
  have hP5 : PKS w w5 wd vP vH (fr8 k ss lo hi d0 d1 d2 (.slice a os.length cap)) a os v L := by
    have hB4 : Below w.heap.size w (((w.alloc (.cells #[.int .i64 k, .int .u32 ss, .int .u64 lo, .int .u64 hi, .int .u8 d0, .int .u8 d1, .int .u8 d2, .slice a os.length cap] 58)).alloc (.cells (opCs (os ++ ozs 8)).toArray 43)).alloc (.cells #[.int .i64 k, .int .u32 ss, .int .u64 lo, .int .u64 hi, .int .u8 d0, .int .u8 d1, .int .u8 d2, .slice (some ⟨w.heap.size + 1, 0, none⟩) os.length (os.length + 8)] 58)) := HZ1.out.alloc HZ1.out.size _
    have hB5 := hB4.trans (hb5.mono hB4.size)
    have hf0 : RowIs (w.alloc (.cells #[.int .i64 k, .int .u32 ss, .int .u64 lo, .int .u64 hi, .int .u8 d0, .int .u8 d1, .int .u8 d2, .slice a os.length cap] 58)) w.heap.size 58 8 (fr8 k ss lo hi d0 d1 d2 (.slice a os.length cap)) := RowIs.last rfl rfl
    have hf4 : RowIs (((w.alloc (.cells #[.int .i64 k, .int .u32 ss, .int .u64 lo, .int .u64 hi, .int .u8 d0, .int .u8 d1, .int .u8 d2, .slice a os.length cap] 58)).alloc (.cells (opCs (os ++ ozs 8)).toArray 43)).alloc (.cells #[.int .i64 k, .int .u32 ss, .int .u64 lo, .int .u64 hi, .int .u8 d0, .int .u8 d1, .int .u8 d2, .slice (some ⟨w.heap.size + 1, 0, none⟩) os.length (os.length + 8)] 58)) w.heap.size 58 8 (fr8 k ss lo hi d0 d1 d2 (.slice a os.length cap)) := (hf0.alloc _).alloc _
    exact ⟨hB5, HW.out.1.row.below hB5 HW.out.1.row.lt, hf4.below hb5 hf4.lt, OwnO.keep (OwnO.keep (HLS.out.base (Nat.le_succ _)) (below1' _ _)) hb5, HOp.out.below hB5, hv.base (by simp)⟩
  clear hv hb5 y7 hcp hmk0 HP0 HLS HK HZ1
  refine wp_region_held_drew (S := fun w' => PKS w w' wd vP vH (fr8 k ss lo hi d0 d1 d2 (.slice a os.length cap)) a os v L) (by kernel_rfl) hP5.drew (fun hHeld => ?_)
  generalize World.drew _ = wD at hHeld ⊢
  refine wpAnyH_take (i := 0) (oi := { dst := some 35, op := _, type := _, pos := _, after := _, guard := _ }) rfl (by kernel_rfl) (by kernel_rfl) (by kernel_rfl) (fun _ _ _ h => h) (Or.inl ⟨by rfl, fun w _ => by go_simp; rfl⟩) hHeld ?_
  simp only [Act.put, List.setIfInBounds_toArray, List.set_cons_zero, List.set_cons_succ]
  refine wpAnyH_take (i := 1) (oi := { dst := some 36, op := _, type := _, pos := _, after := _, guard := _ }) rfl (by kernel_rfl) (by kernel_rfl) (by kernel_rfl) (fun _ _ _ h => h) (Or.inl ⟨by rfl, fun w _ => by go_simp; rfl⟩) hHeld ?_
  simp only [Act.put, List.setIfInBounds_toArray, List.set_cons_zero, List.set_cons_succ]
  refine wpAnyH_take (i := 2) (oi := { dst := some 37, op := _, type := _, pos := _, after := _, guard := _ }) rfl (by kernel_rfl) (by kernel_rfl) (by kernel_rfl) (fun _ _ _ h => h) (Or.inl ⟨by rfl, fun w _ => by go_simp; rfl⟩) hHeld ?_
  simp only [Act.put, List.setIfInBounds_toArray, List.set_cons_zero, List.set_cons_succ]
  refine wpAnyH_take (i := 3) (oi := { dst := some 38, op := _, type := _, pos := _, after := _, guard := _ }) rfl (by kernel_rfl) (by kernel_rfl) (by kernel_rfl) (fun _ _ _ h => h) (yieldsIf_load_mid (by rfl) 80 (.tmp 37) rfl wd 0 rfl (rowOf 72 fun j => .int .u32 (RV j)).toList _ (fun _ h => range74 h.row) Tryz.underlying80 rfl (by rw [Array.length_toList, rowOf_size]; exact info30)) hHeld ?_
  simp only [Act.put, List.setIfInBounds_toArray, List.set_cons_zero, List.set_cons_succ, Array.toArray_toList]
  refine wpAnyH_take (i := 4) (oi := { dst := some 39, op := _, type := _, pos := _, after := _, guard := _ }) rfl (by kernel_rfl) (by kernel_rfl) (by kernel_rfl) (fun _ _ _ h => h) (Or.inl ⟨by rfl, fun w hS => by have q0 : World.cell? _ ⟨_, 0, none⟩ = some (.int .i64 k) := hS.fr.cell (by omega); have q1 : World.cell? _ ⟨_, 1, none⟩ = some (.int .u32 ss) := hS.fr.cell (by omega); have q2 : World.cell? _ ⟨_, 2, none⟩ = some (.int .u64 lo) := hS.fr.cell (by omega); have q3 : World.cell? _ ⟨_, 3, none⟩ = some (.int .u64 hi) := hS.fr.cell (by omega); have q4 : World.cell? _ ⟨_, 4, none⟩ = some (.int .u8 d0) := hS.fr.cell (by omega); have q5 : World.cell? _ ⟨_, 5, none⟩ = some (.int .u8 d1) := hS.fr.cell (by omega); have q6 : World.cell? _ ⟨_, 6, none⟩ = some (.int .u8 d2) := hS.fr.cell (by omega); have q7 : World.cell? _ ⟨_, 7, none⟩ = some (.slice a os.length cap) := hS.fr.cell (by omega); go_simp; rfl⟩) hHeld ?_
  simp only [Act.put, List.setIfInBounds_toArray, List.set_cons_zero, List.set_cons_succ]
  refine wpAnyH_ready (rs := [5]) (by kernel_rfl) (by simp) (AllReadyH.cons (o := { dst := some 40, op := _, type := _, pos := _, after := _, guard := _ }) rfl (fun K hK => ?_) AllReadyH.nil)
  go_simp
  refine (HR.out _ _ _ hHeld.ops).mono ?_
  rintro e w6 ⟨rfl, hb6⟩
  refine hK.out _ _ (hHeld.kept hb6) (fun hHeld => ?_)
  clear hK K hb6
  refine wpAnyH_take (i := 6) (oi := { dst := some 34, op := _, type := _, pos := _, after := _, guard := _ }) rfl (by kernel_rfl) (by kernel_rfl) (by kernel_rfl) (fun _ _ _ h => h) (Or.inl ⟨by rfl, fun w _ => by go_simp; rfl⟩) hHeld ?_
  simp only [Act.put, List.setIfInBounds_toArray, List.set_cons_zero, List.set_cons_succ]
  refine wpAnyH_take (i := 7) (oi := { dst := some 41, op := _, type := _, pos := _, after := _, guard := _ }) rfl (by kernel_rfl) (by kernel_rfl) (by kernel_rfl) (fun _ _ _ h => h) (Or.inl ⟨by rfl, fun w _ => by go_simp; rfl⟩) hHeld ?_
  simp only [Act.put, List.setIfInBounds_toArray, List.set_cons_zero, List.set_cons_succ]
  refine wpAnyH_take (i := 8) (oi := { dst := some 42, op := _, type := _, pos := _, after := _, guard := _ }) rfl (by kernel_rfl) (by kernel_rfl) (by kernel_rfl) (fun _ _ _ h => h) (Or.inl ⟨by rfl, fun w _ => by go_simp; rfl⟩) hHeld ?_
  simp only [Act.put, List.setIfInBounds_toArray, List.set_cons_zero, List.set_cons_succ]
  refine wpAnyH_ready (rs := [9]) (by kernel_rfl) (by simp) (AllReadyH.cons (o := { dst := some 9, op := _, type := _, pos := _, after := _, guard := _ }) rfl (fun K hK => ?_) AllReadyH.nil)
  go_simp
  refine hK.out _ _ hHeld (fun hHeld => ?_)
  clear hK K
  refine wpAnyH_ready (rs := [10]) (by kernel_rfl) (by simp) (AllReadyH.cons (o := { dst := some 10, op := _, type := _, pos := _, after := _, guard := _ }) rfl (fun K hK => ?_) AllReadyH.nil)
  go_simp
  refine hK.out _ _ hHeld (fun hHeld => ?_)
  clear hK K
  refine wpAnyH_done (by kernel_rfl) ?_ _
  have hcv := conv_own hHeld.own
  have HP6 : Hid (PKS _ _ _ _ _ _ _ _ _ _) := hHeld
  clear hHeld hP5 HR
  generalize strOfNums L = SL at *
  go_wp2_with fail
  go_loopw [11, 12] (fun ov iv wr => ov = .bool true ∧ ∃ i : Nat, i ≤ os.length + 8 ∧ iv = .int .i64 i ∧ PKS w wr wd vP vH (fr8 k ss lo hi d0 d1 d2 (.slice a os.length cap)) a os v L) (fun _ iv _ => os.length + 8 - (intOf iv).toNat)
  case atStart => exact ⟨rfl, 0, Nat.zero_le _, rfl, HP6.out⟩
  case round =>
    obtain ⟨rfl, i, hi, rfl, hPr⟩ := hrel
    have hn63 := HN.out
    by_cases hlt : i < os.length + 8
    · have li : (i : Int) < (os.length : Int) + 8 := by omega
      by_cases hA : i < os.length
      · have lA : (i : Int) < (os.length : Int) := by omega
        obtain ⟨g, off, rfl⟩ : ∃ g off, a = some ⟨g, off, none⟩ := by
          rcases hPr.ops with e | ⟨g, off, e, -⟩
          · rw [e] at hA; cases hA
          · exact ⟨g, off, e⟩
        have HPr : Hid (PKS _ _ _ _ _ _ _ _ _ _) := hPr
        clear hPr HP6 HOp HW HN hn63 hi hcv
        go_wp2_with fail
        refine wp_region_held_drew (S := fun w' => PKS w w' wd vP vH (fr8 k ss lo hi d0 d1 d2 (.slice (some ⟨g, off, none⟩) os.length cap)) (some ⟨g, off, none⟩) os v L) (by kernel_rfl) HPr.out.drew (fun hHeld => ?_)
        generalize World.drew _ = wE at hHeld ⊢
        refine wpAnyH_take (i := 0) (oi := { dst := some 58, op := _, type := _, pos := _, after := _, guard := _ }) rfl (by kernel_rfl) (by kernel_rfl) (by kernel_rfl) (fun _ _ _ h => h) (Or.inl ⟨by rfl, fun w _ => by go_simp; rfl⟩) hHeld ?_
        simp only [Act.put, List.setIfInBounds_toArray, List.set_cons_zero, List.set_cons_succ]
        refine wpAnyH_take (i := 1) (oi := { dst := some 59, op := _, type := _, pos := _, after := _, guard := _ }) rfl (by kernel_rfl) (by kernel_rfl) (by kernel_rfl) (fun _ _ _ h => h) (Or.inl ⟨by rfl, fun w _ => by go_simp; rfl⟩) hHeld ?_
        simp only [Act.put, List.setIfInBounds_toArray, List.set_cons_zero, List.set_cons_succ]
        refine wpAnyH_take (i := 2) (oi := { dst := some 60, op := _, type := _, pos := _, after := _, guard := _ }) rfl (by kernel_rfl) (by kernel_rfl) (by kernel_rfl) (fun _ _ _ h => h) (Or.inl ⟨by rfl, fun w _ => by go_simp; rfl⟩) hHeld ?_
        simp only [Act.put, List.setIfInBounds_toArray, List.set_cons_zero, List.set_cons_succ]
        refine wpAnyH_take (i := 3) (oi := { dst := some 61, op := _, type := _, pos := _, after := _, guard := _ }) rfl (by kernel_rfl) (by kernel_rfl) (by kernel_rfl) (fun _ _ _ h => h) (Or.inl ⟨by rfl, fun w _ => by go_simp; rfl⟩) hHeld ?_
        simp only [Act.put, List.setIfInBounds_toArray, List.set_cons_zero, List.set_cons_succ]
        refine wpAnyH_take (i := 4) (oi := { dst := some 62, op := _, type := _, pos := _, after := _, guard := _ }) rfl (by kernel_rfl) (by kernel_rfl) (by kernel_rfl) (fun _ _ _ h => h) (Or.inl ⟨by rfl, fun w hS => by have q7 : World.cell? _ ⟨_, 7, none⟩ = some _ := hS.fr.cell (show 7 < 8 by omega); simp only [fr8] at q7; go_simp; rfl⟩) hHeld ?_
        simp only [Act.put, List.setIfInBounds_toArray, List.set_cons_zero, List.set_cons_succ]
        refine wpAnyH_take (i := 5) (oi := { dst := some 63, op := _, type := _, pos := _, after := _, guard := _ }) rfl (by kernel_rfl) (by kernel_rfl) (by kernel_rfl) (fun _ _ _ h => h) (Or.inl ⟨by rfl, fun w _ => by go_simp; rfl⟩) hHeld ?_
        simp only [Act.put, List.setIfInBounds_toArray, List.set_cons_zero, List.set_cons_succ]
        refine wpAnyH_take (i := 6) (oi := { dst := some 64, op := _, type := _, pos := _, after := _, guard := _ }) rfl (by kernel_rfl) (by kernel_rfl) (by kernel_rfl) (fun _ _ _ h => h) (Or.inl ⟨by rfl, fun w _ => by go_simp; rfl⟩) hHeld ?_
        simp only [Act.put, List.setIfInBounds_toArray, List.set_cons_zero, List.set_cons_succ]
        refine wpAnyH_take (i := 7) (oi := { dst := some 65, op := _, type := _, pos := _, after := _, guard := _ }) rfl (by kernel_rfl) (by kernel_rfl) (by kernel_rfl) (fun _ _ _ h => h) (Or.inl ⟨by rfl, fun w _ => by go_simp; rfl⟩) hHeld ?_
        simp only [Act.put, List.setIfInBounds_toArray, List.set_cons_zero, List.set_cons_succ]
        refine wpAnyH_take (i := 8) (oi := { dst := some 66, op := _, type := _, pos := _, after := _, guard := _ }) rfl (by kernel_rfl) (by kernel_rfl) (by kernel_rfl) (fun _ _ _ h => h) (Or.inl ⟨by rfl, fun w _ => by go_simp; rfl⟩) hHeld ?_
        simp only [Act.put, List.setIfInBounds_toArray, List.set_cons_zero, List.set_cons_succ]
        refine wpAnyH_take (i := 9) (oi := { dst := some 67, op := _, type := _, pos := _, after := _, guard := _ }) rfl (by kernel_rfl) (by kernel_rfl) (by kernel_rfl) (fun _ _ _ h => h) (Or.inl ⟨by rfl, fun w _ => by go_simp; rfl⟩) hHeld ?_
        simp only [Act.put, List.setIfInBounds_toArray, List.set_cons_zero, List.set_cons_succ]
        refine wpAnyH_take (i := 10) (oi := { dst := some 68, op := _, type := _, pos := _, after := _, guard := _ }) rfl (by kernel_rfl) (by kernel_rfl) (by kernel_rfl) (fun _ _ _ h => h) (Or.inl ⟨by rfl, fun w _ => by go_simp; rfl⟩) hHeld ?_
        simp only [Act.put, List.setIfInBounds_toArray, List.set_cons_zero, List.set_cons_succ]
        refine wpAnyH_take (i := 11) (oi := { dst := some 69, op := _, type := _, pos := _, after := _, guard := _ }) rfl (by kernel_rfl) (by kernel_rfl) (by kernel_rfl) (fun _ _ _ h => h) (Or.inl ⟨by rfl, fun w hS => by obtain ⟨a0, a1, a2, a3, a4, a5⟩ := hS.cellsA hA; go_simp; rfl⟩) hHeld ?_
        simp only [Act.put, List.setIfInBounds_toArray, List.set_cons_zero, List.set_cons_succ]
        refine wpAnyH_take (i := 12) (oi := { dst := some 70, op := _, type := _, pos := _, after := _, guard := _ }) rfl (by kernel_rfl) (by kernel_rfl) (by kernel_rfl) (fun _ _ _ h => h) (Or.inl ⟨by rfl, fun w _ => by go_simp; rfl⟩) hHeld ?_
        simp only [Act.put, List.setIfInBounds_toArray, List.set_cons_zero, List.set_cons_succ]
        refine wpAnyH_take (i := 13) (oi := { dst := some 71, op := _, type := _, pos := _, after := _, guard := _ }) rfl (by kernel_rfl) (by kernel_rfl) (by kernel_rfl) (fun _ _ _ h => h) (Or.inl ⟨by rfl, fun w hS => by have q7 : World.cell? _ ⟨_, 7, none⟩ = some _ := hS.fr.cell (show 7 < 8 by omega); simp only [fr8] at q7; go_simp; rfl⟩) hHeld ?_
        simp only [Act.put, List.setIfInBounds_toArray, List.set_cons_zero, List.set_cons_succ]
        refine wpAnyH_take (i := 14) (oi := { dst := some 72, op := _, type := _, pos := _, after := _, guard := _ }) rfl (by kernel_rfl) (by kernel_rfl) (by kernel_rfl) (fun _ _ _ h => h) (Or.inl ⟨by rfl, fun w _ => by go_simp; rfl⟩) hHeld ?_
        simp only [Act.put, List.setIfInBounds_toArray, List.set_cons_zero, List.set_cons_succ]
        refine wpAnyH_take (i := 15) (oi := { dst := some 73, op := _, type := _, pos := _, after := _, guard := _ }) rfl (by kernel_rfl) (by kernel_rfl) (by kernel_rfl) (fun _ _ _ h => h) (Or.inl ⟨by rfl, fun w _ => by go_simp; rfl⟩) hHeld ?_
        simp only [Act.put, List.setIfInBounds_toArray, List.set_cons_zero, List.set_cons_succ]
        refine wpAnyH_take (i := 16) (oi := { dst := some 74, op := _, type := _, pos := _, after := _, guard := _ }) rfl (by kernel_rfl) (by kernel_rfl) (by kernel_rfl) (fun _ _ _ h => h) (Or.inl ⟨by rfl, fun w hS => by obtain ⟨b0, b1, b2, b3, b4, b5⟩ := hS.cellsF hA; go_simp; rfl⟩) hHeld ?_
        simp only [Act.put, List.setIfInBounds_toArray, List.set_cons_zero, List.set_cons_succ]
        refine wpAnyH_take (i := 17) (oi := { dst := some 75, op := _, type := _, pos := _, after := _, guard := _ }) rfl (by kernel_rfl) (by kernel_rfl) (by kernel_rfl) (fun _ _ _ h => h) (Or.inl ⟨by rfl, fun w _ => by go_simp; rfl⟩) hHeld ?_
        simp only [Act.put, List.setIfInBounds_toArray, List.set_cons_zero, List.set_cons_succ]
        refine wpAnyH_take (i := 18) (oi := { dst := some 76, op := _, type := _, pos := _, after := _, guard := _ }) rfl (by kernel_rfl) (by kernel_rfl) (by kernel_rfl) (fun _ _ _ h => h) (Or.inl ⟨by rfl, fun w _ => by go_simp; rfl⟩) hHeld ?_
        simp only [Act.put, List.setIfInBounds_toArray, List.set_cons_zero, List.set_cons_succ]
        refine wpAnyH_take (i := 19) (oi := { dst := some 77, op := _, type := _, pos := _, after := _, guard := _ }) rfl (by kernel_rfl) (by kernel_rfl) (by kernel_rfl) (fun _ _ _ h => h) (Or.inl ⟨by rfl, fun w _ => by go_simp; rfl⟩) hHeld ?_
        simp only [Act.put, List.setIfInBounds_toArray, List.set_cons_zero, List.set_cons_succ]
        refine wpAnyH_take (i := 20) (oi := { dst := some 78, op := _, type := _, pos := _, after := _, guard := _ }) rfl (by kernel_rfl) (by kernel_rfl) (by kernel_rfl) (fun _ _ _ h => h) (Or.inr ⟨by rfl, rfl⟩) hHeld ?_
        simp only [Act.put, List.setIfInBounds_toArray, List.set_cons_zero, List.set_cons_succ]
        refine wpAnyH_take (i := 21) (oi := { dst := some 79, op := _, type := _, pos := _, after := _, guard := _ }) rfl (by kernel_rfl) (by kernel_rfl) (by kernel_rfl) (fun _ _ _ h => h) (Or.inr ⟨by rfl, rfl⟩) hHeld ?_
        simp only [Act.put, List.setIfInBounds_toArray, List.set_cons_zero, List.set_cons_succ]
        refine wpAnyH_take (i := 22) (oi := { dst := some 80, op := _, type := _, pos := _, after := _, guard := _ }) rfl (by kernel_rfl) (by kernel_rfl) (by kernel_rfl) (fun _ _ _ h => h) (Or.inr ⟨by rfl, rfl⟩) hHeld ?_
        simp only [Act.put, List.setIfInBounds_toArray, List.set_cons_zero, List.set_cons_succ]
        refine wpAnyH_take (i := 23) (oi := { dst := some 81, op := _, type := _, pos := _, after := _, guard := _ }) rfl (by kernel_rfl) (by kernel_rfl) (by kernel_rfl) (fun _ _ _ h => h) (Or.inr ⟨by rfl, rfl⟩) hHeld ?_
        simp only [Act.put, List.setIfInBounds_toArray, List.set_cons_zero, List.set_cons_succ]
        refine wpAnyH_take (i := 24) (oi := { dst := some 82, op := _, type := _, pos := _, after := _, guard := _ }) rfl (by kernel_rfl) (by kernel_rfl) (by kernel_rfl) (fun _ _ _ h => h) (Or.inr ⟨by rfl, rfl⟩) hHeld ?_
        simp only [Act.put, List.setIfInBounds_toArray, List.set_cons_zero, List.set_cons_succ]
        refine wpAnyH_take (i := 25) (oi := { dst := some 83, op := _, type := _, pos := _, after := _, guard := _ }) rfl (by kernel_rfl) (by kernel_rfl) (by kernel_rfl) (fun _ _ _ h => h) (Or.inr ⟨by rfl, rfl⟩) hHeld ?_
        simp only [Act.put, List.setIfInBounds_toArray, List.set_cons_zero, List.set_cons_succ]
        refine wpAnyH_take (i := 26) (oi := { dst := some 84, op := _, type := _, pos := _, after := _, guard := _ }) rfl (by kernel_rfl) (by kernel_rfl) (by kernel_rfl) (fun _ _ _ h => h) (Or.inr ⟨by rfl, rfl⟩) hHeld ?_
        simp only [Act.put, List.setIfInBounds_toArray, List.set_cons_zero, List.set_cons_succ]
        refine wpAnyH_take (i := 27) (oi := { dst := some 85, op := _, type := _, pos := _, after := _, guard := _ }) rfl (by kernel_rfl) (by kernel_rfl) (by kernel_rfl) (fun _ _ _ h => h) (Or.inr ⟨by rfl, rfl⟩) hHeld ?_
        simp only [Act.put, List.setIfInBounds_toArray, List.set_cons_zero, List.set_cons_succ]
        refine wpAnyH_take (i := 28) (oi := { dst := some 86, op := _, type := _, pos := _, after := _, guard := _ }) rfl (by kernel_rfl) (by kernel_rfl) (by kernel_rfl) (fun _ _ _ h => h) (Or.inr ⟨by rfl, rfl⟩) hHeld ?_
        simp only [Act.put, List.setIfInBounds_toArray, List.set_cons_zero, List.set_cons_succ]
        refine wpAnyH_take (i := 29) (oi := { dst := some 87, op := _, type := _, pos := _, after := _, guard := _ }) rfl (by kernel_rfl) (by kernel_rfl) (by kernel_rfl) (fun _ _ _ h => h) (Or.inr ⟨by rfl, rfl⟩) hHeld ?_
        simp only [Act.put, List.setIfInBounds_toArray, List.set_cons_zero, List.set_cons_succ]
        refine wpAnyH_take (i := 30) (oi := { dst := some 88, op := _, type := _, pos := _, after := _, guard := _ }) rfl (by kernel_rfl) (by kernel_rfl) (by kernel_rfl) (fun _ _ _ h => h) (Or.inr ⟨by rfl, rfl⟩) hHeld ?_
        simp only [Act.put, List.setIfInBounds_toArray, List.set_cons_zero, List.set_cons_succ]
        refine wpAnyH_take (i := 31) (oi := { dst := some 89, op := _, type := _, pos := _, after := _, guard := _ }) rfl (by kernel_rfl) (by kernel_rfl) (by kernel_rfl) (fun _ _ _ h => h) (Or.inr ⟨by rfl, rfl⟩) hHeld ?_
        simp only [Act.put, List.setIfInBounds_toArray, List.set_cons_zero, List.set_cons_succ]
        refine wpAnyH_take (i := 32) (oi := { dst := some 90, op := _, type := _, pos := _, after := _, guard := _ }) rfl (by kernel_rfl) (by kernel_rfl) (by kernel_rfl) (fun _ _ _ h => h) (Or.inr ⟨by rfl, rfl⟩) hHeld ?_
        simp only [Act.put, List.setIfInBounds_toArray, List.set_cons_zero, List.set_cons_succ]
        refine wpAnyH_take (i := 33) (oi := { dst := some 91, op := _, type := _, pos := _, after := _, guard := _ }) rfl (by kernel_rfl) (by kernel_rfl) (by kernel_rfl) (fun _ _ _ h => h) (Or.inl ⟨by rfl, fun w _ => by go_simp; rfl⟩) hHeld ?_
        simp only [Act.put, List.setIfInBounds_toArray, List.set_cons_zero, List.set_cons_succ]
        refine wpAnyH_take (i := 34) (oi := { dst := some 92, op := _, type := _, pos := _, after := _, guard := _ }) rfl (by kernel_rfl) (by kernel_rfl) (by kernel_rfl) (fun _ _ _ h => h) (Or.inl ⟨by rfl, fun w _ => by go_simp; rfl⟩) hHeld ?_
        simp only [Act.put, List.setIfInBounds_toArray, List.set_cons_zero, List.set_cons_succ]
        refine wpAnyH_ready (rs := [35]) (by kernel_rfl) (by simp) (AllReadyH.cons (o := { dst := some 11, op := _, type := _, pos := _, after := _, guard := _ }) rfl (fun K hK => ?_) AllReadyH.nil)
        go_simp
        refine hK.out _ _ hHeld (fun hHeld => ?_)
        clear hK K
        refine wpAnyH_done (by kernel_rfl) ?_ _
        go_wp2_with fail
        go_roundw
        case rel => exact ⟨rfl, i + 1, hlt, by go_num, hHeld⟩
        case measure => simp [intOf]; omega
      · have lB : ¬ (i : Int) < (os.length : Int) := by omega
        have lC : (os.length : Int) ≤ (i : Int) := by omega
        have hB : os.length ≤ i := by omega
        have HPr : Hid (PKS _ _ _ _ _ _ _ _ _ _) := hPr
        clear hPr HP6 HOp HW HN hn63 hi hcv
        go_wp2_with fail
        refine wp_region_held_drew (S := fun w' => PKS w w' wd vP vH (fr8 k ss lo hi d0 d1 d2 (.slice a os.length cap)) a os v L) (by kernel_rfl) HPr.out.drew (fun hHeld => ?_)
        generalize World.drew _ = wE at hHeld ⊢
        refine wpAnyH_take (i := 0) (oi := { dst := some 58, op := _, type := _, pos := _, after := _, guard := _ }) rfl (by kernel_rfl) (by kernel_rfl) (by kernel_rfl) (fun _ _ _ h => h) (Or.inl ⟨by rfl, fun w _ => by go_simp; rfl⟩) hHeld ?_
        simp only [Act.put, List.setIfInBounds_toArray, List.set_cons_zero, List.set_cons_succ]
        refine wpAnyH_take (i := 1) (oi := { dst := some 59, op := _, type := _, pos := _, after := _, guard := _ }) rfl (by kernel_rfl) (by kernel_rfl) (by kernel_rfl) (fun _ _ _ h => h) (Or.inl ⟨by rfl, fun w _ => by go_simp; rfl⟩) hHeld ?_
        simp only [Act.put, List.setIfInBounds_toArray, List.set_cons_zero, List.set_cons_succ]
        refine wpAnyH_take (i := 2) (oi := { dst := some 60, op := _, type := _, pos := _, after := _, guard := _ }) rfl (by kernel_rfl) (by kernel_rfl) (by kernel_rfl) (fun _ _ _ h => h) (Or.inl ⟨by rfl, fun w _ => by go_simp; rfl⟩) hHeld ?_
        simp only [Act.put, List.setIfInBounds_toArray, List.set_cons_zero, List.set_cons_succ]
        refine wpAnyH_take (i := 3) (oi := { dst := some 61, op := _, type := _, pos := _, after := _, guard := _ }) rfl (by kernel_rfl) (by kernel_rfl) (by kernel_rfl) (fun _ _ _ h => h) (Or.inl ⟨by rfl, fun w _ => by go_simp; rfl⟩) hHeld ?_
        simp only [Act.put, List.setIfInBounds_toArray, List.set_cons_zero, List.set_cons_succ]
        refine wpAnyH_take (i := 4) (oi := { dst := some 62, op := _, type := _, pos := _, after := _, guard := _ }) rfl (by kernel_rfl) (by kernel_rfl) (by kernel_rfl) (fun _ _ _ h => h) (Or.inl ⟨by rfl, fun w hS => by have q7 : World.cell? _ ⟨_, 7, none⟩ = some _ := hS.fr.cell (show 7 < 8 by omega); simp only [fr8] at q7; go_simp; rfl⟩) hHeld ?_
        simp only [Act.put, List.setIfInBounds_toArray, List.set_cons_zero, List.set_cons_succ]
        refine wpAnyH_take (i := 5) (oi := { dst := some 63, op := _, type := _, pos := _, after := _, guard := _ }) rfl (by kernel_rfl) (by kernel_rfl) (by kernel_rfl) (fun _ _ _ h => h) (Or.inl ⟨by rfl, fun w _ => by go_simp; rfl⟩) hHeld ?_
        simp only [Act.put, List.setIfInBounds_toArray, List.set_cons_zero, List.set_cons_succ]
        refine wpAnyH_take (i := 6) (oi := { dst := some 64, op := _, type := _, pos := _, after := _, guard := _ }) rfl (by kernel_rfl) (by kernel_rfl) (by kernel_rfl) (fun _ _ _ h => h) (Or.inl ⟨by rfl, fun w _ => by go_simp; rfl⟩) hHeld ?_
        simp only [Act.put, List.setIfInBounds_toArray, List.set_cons_zero, List.set_cons_succ]
        refine wpAnyH_take (i := 7) (oi := { dst := some 65, op := _, type := _, pos := _, after := _, guard := _ }) rfl (by kernel_rfl) (by kernel_rfl) (by kernel_rfl) (fun _ _ _ h => h) (Or.inl ⟨by rfl, fun w _ => by go_simp; rfl⟩) hHeld ?_
        simp only [Act.put, List.setIfInBounds_toArray, List.set_cons_zero, List.set_cons_succ]
        refine wpAnyH_take (i := 8) (oi := { dst := some 66, op := _, type := _, pos := _, after := _, guard := _ }) rfl (by kernel_rfl) (by kernel_rfl) (by kernel_rfl) (fun _ _ _ h => h) (Or.inr ⟨by rfl, rfl⟩) hHeld ?_
        simp only [Act.put, List.setIfInBounds_toArray, List.set_cons_zero, List.set_cons_succ]
        refine wpAnyH_take (i := 9) (oi := { dst := some 67, op := _, type := _, pos := _, after := _, guard := _ }) rfl (by kernel_rfl) (by kernel_rfl) (by kernel_rfl) (fun _ _ _ h => h) (Or.inr ⟨by rfl, rfl⟩) hHeld ?_
        simp only [Act.put, List.setIfInBounds_toArray, List.set_cons_zero, List.set_cons_succ]
        refine wpAnyH_take (i := 10) (oi := { dst := some 68, op := _, type := _, pos := _, after := _, guard := _ }) rfl (by kernel_rfl) (by kernel_rfl) (by kernel_rfl) (fun _ _ _ h => h) (Or.inr ⟨by rfl, rfl⟩) hHeld ?_
        simp only [Act.put, List.setIfInBounds_toArray, List.set_cons_zero, List.set_cons_succ]
        refine wpAnyH_take (i := 11) (oi := { dst := some 69, op := _, type := _, pos := _, after := _, guard := _ }) rfl (by kernel_rfl) (by kernel_rfl) (by kernel_rfl) (fun _ _ _ h => h) (Or.inr ⟨by rfl, rfl⟩) hHeld ?_
        simp only [Act.put, List.setIfInBounds_toArray, List.set_cons_zero, List.set_cons_succ]
        refine wpAnyH_take (i := 12) (oi := { dst := some 70, op := _, type := _, pos := _, after := _, guard := _ }) rfl (by kernel_rfl) (by kernel_rfl) (by kernel_rfl) (fun _ _ _ h => h) (Or.inr ⟨by rfl, rfl⟩) hHeld ?_
        simp only [Act.put, List.setIfInBounds_toArray, List.set_cons_zero, List.set_cons_succ]
        refine wpAnyH_take (i := 13) (oi := { dst := some 71, op := _, type := _, pos := _, after := _, guard := _ }) rfl (by kernel_rfl) (by kernel_rfl) (by kernel_rfl) (fun _ _ _ h => h) (Or.inr ⟨by rfl, rfl⟩) hHeld ?_
        simp only [Act.put, List.setIfInBounds_toArray, List.set_cons_zero, List.set_cons_succ]
        refine wpAnyH_take (i := 14) (oi := { dst := some 72, op := _, type := _, pos := _, after := _, guard := _ }) rfl (by kernel_rfl) (by kernel_rfl) (by kernel_rfl) (fun _ _ _ h => h) (Or.inr ⟨by rfl, rfl⟩) hHeld ?_
        simp only [Act.put, List.setIfInBounds_toArray, List.set_cons_zero, List.set_cons_succ]
        refine wpAnyH_take (i := 15) (oi := { dst := some 73, op := _, type := _, pos := _, after := _, guard := _ }) rfl (by kernel_rfl) (by kernel_rfl) (by kernel_rfl) (fun _ _ _ h => h) (Or.inr ⟨by rfl, rfl⟩) hHeld ?_
        simp only [Act.put, List.setIfInBounds_toArray, List.set_cons_zero, List.set_cons_succ]
        refine wpAnyH_take (i := 16) (oi := { dst := some 74, op := _, type := _, pos := _, after := _, guard := _ }) rfl (by kernel_rfl) (by kernel_rfl) (by kernel_rfl) (fun _ _ _ h => h) (Or.inr ⟨by rfl, rfl⟩) hHeld ?_
        simp only [Act.put, List.setIfInBounds_toArray, List.set_cons_zero, List.set_cons_succ]
        refine wpAnyH_take (i := 17) (oi := { dst := some 75, op := _, type := _, pos := _, after := _, guard := _ }) rfl (by kernel_rfl) (by kernel_rfl) (by kernel_rfl) (fun _ _ _ h => h) (Or.inr ⟨by rfl, rfl⟩) hHeld ?_
        simp only [Act.put, List.setIfInBounds_toArray, List.set_cons_zero, List.set_cons_succ]
        refine wpAnyH_take (i := 18) (oi := { dst := some 76, op := _, type := _, pos := _, after := _, guard := _ }) rfl (by kernel_rfl) (by kernel_rfl) (by kernel_rfl) (fun _ _ _ h => h) (Or.inl ⟨by rfl, fun w _ => by go_simp; rfl⟩) hHeld ?_
        simp only [Act.put, List.setIfInBounds_toArray, List.set_cons_zero, List.set_cons_succ]
        refine wpAnyH_take (i := 19) (oi := { dst := some 77, op := _, type := _, pos := _, after := _, guard := _ }) rfl (by kernel_rfl) (by kernel_rfl) (by kernel_rfl) (fun _ _ _ h => h) (Or.inl ⟨by rfl, fun w _ => by go_simp; rfl⟩) hHeld ?_
        simp only [Act.put, List.setIfInBounds_toArray, List.set_cons_zero, List.set_cons_succ]
        refine wpAnyH_take (i := 20) (oi := { dst := some 78, op := _, type := _, pos := _, after := _, guard := _ }) rfl (by kernel_rfl) (by kernel_rfl) (by kernel_rfl) (fun _ _ _ h => h) (Or.inl ⟨by rfl, fun w _ => by go_simp; rfl⟩) hHeld ?_
        simp only [Act.put, List.setIfInBounds_toArray, List.set_cons_zero, List.set_cons_succ]
        refine wpAnyH_take (i := 21) (oi := { dst := some 79, op := _, type := _, pos := _, after := _, guard := _ }) rfl (by kernel_rfl) (by kernel_rfl) (by kernel_rfl) (fun _ _ _ h => h) (Or.inl ⟨by rfl, fun w _ => by go_simp; rfl⟩) hHeld ?_
        simp only [Act.put, List.setIfInBounds_toArray, List.set_cons_zero, List.set_cons_succ]
        refine wpAnyH_take (i := 22) (oi := { dst := some 80, op := _, type := _, pos := _, after := _, guard := _ }) rfl (by kernel_rfl) (by kernel_rfl) (by kernel_rfl) (fun _ _ _ h => h) (Or.inl ⟨by rfl, fun w hS => by have q7 : World.cell? _ ⟨_, 7, none⟩ = some _ := hS.fr.cell (show 7 < 8 by omega); simp only [fr8] at q7; go_simp; rfl⟩) hHeld ?_
        simp only [Act.put, List.setIfInBounds_toArray, List.set_cons_zero, List.set_cons_succ]
        refine wpAnyH_take (i := 23) (oi := { dst := some 81, op := _, type := _, pos := _, after := _, guard := _ }) rfl (by kernel_rfl) (by kernel_rfl) (by kernel_rfl) (fun _ _ _ h => h) (Or.inl ⟨by rfl, fun w _ => by go_simp; rfl⟩) hHeld ?_
        simp only [Act.put, List.setIfInBounds_toArray, List.set_cons_zero, List.set_cons_succ]
        refine wpAnyH_take (i := 24) (oi := { dst := some 82, op := _, type := _, pos := _, after := _, guard := _ }) rfl (by kernel_rfl) (by kernel_rfl) (by kernel_rfl) (fun _ _ _ h => h) (Or.inl ⟨by rfl, fun w _ => by go_simp; rfl⟩) hHeld ?_
        simp only [Act.put, List.setIfInBounds_toArray, List.set_cons_zero, List.set_cons_succ]
        refine wpAnyH_take (i := 25) (oi := { dst := some 83, op := _, type := _, pos := _, after := _, guard := _ }) rfl (by kernel_rfl) (by kernel_rfl) (by kernel_rfl) (fun _ _ _ h => h) (Or.inl ⟨by rfl, fun w _ => by go_simp; rfl⟩) hHeld ?_
        simp only [Act.put, List.setIfInBounds_toArray, List.set_cons_zero, List.set_cons_succ]
        refine wpAnyH_take (i := 26) (oi := { dst := some 84, op := _, type := _, pos := _, after := _, guard := _ }) rfl (by kernel_rfl) (by kernel_rfl) (by kernel_rfl) (fun _ _ _ h => h) (Or.inl ⟨by rfl, fun w _ => by go_simp; rfl⟩) hHeld ?_
        simp only [Act.put, List.setIfInBounds_toArray, List.set_cons_zero, List.set_cons_succ]
        refine wpAnyH_take (i := 27) (oi := { dst := some 85, op := _, type := _, pos := _, after := _, guard := _ }) rfl (by kernel_rfl) (by kernel_rfl) (by kernel_rfl) (fun _ _ _ h => h) (Or.inl ⟨by rfl, fun w _ => by go_simp; rfl⟩) hHeld ?_
        simp only [Act.put, List.setIfInBounds_toArray, List.set_cons_zero, List.set_cons_succ]
        refine wpAnyH_take (i := 28) (oi := { dst := some 86, op := _, type := _, pos := _, after := _, guard := _ }) rfl (by kernel_rfl) (by kernel_rfl) (by kernel_rfl) (fun _ _ _ h => h) (Or.inl ⟨by rfl, fun w _ => by go_simp; rfl⟩) hHeld ?_
        simp only [Act.put, List.setIfInBounds_toArray, List.set_cons_zero, List.set_cons_succ]
        refine wpAnyH_take (i := 29) (oi := { dst := some 87, op := _, type := _, pos := _, after := _, guard := _ }) rfl (by kernel_rfl) (by kernel_rfl) (by kernel_rfl) (fun _ _ _ h => h) (Or.inl ⟨by rfl, fun w hS => by obtain ⟨a0, a1, a2, a3, a4, a5⟩ := hS.cellsB hB hlt; go_simp; rfl⟩) hHeld ?_
        simp only [Act.put, List.setIfInBounds_toArray, List.set_cons_zero, List.set_cons_succ]
        refine wpAnyH_take (i := 30) (oi := { dst := some 88, op := _, type := _, pos := _, after := _, guard := _ }) rfl (by kernel_rfl) (by kernel_rfl) (by kernel_rfl) (fun _ _ _ h => h) (Or.inl ⟨by rfl, fun w _ => by go_simp; rfl⟩) hHeld ?_
        simp only [Act.put, List.setIfInBounds_toArray, List.set_cons_zero, List.set_cons_succ]
        refine wpAnyH_take (i := 31) (oi := { dst := some 89, op := _, type := _, pos := _, after := _, guard := _ }) rfl (by kernel_rfl) (by kernel_rfl) (by kernel_rfl) (fun _ _ _ h => h) (Or.inl ⟨by rfl, fun w _ => by go_simp; rfl⟩) hHeld ?_
        simp only [Act.put, List.setIfInBounds_toArray, List.set_cons_zero, List.set_cons_succ]
        refine wpAnyH_take (i := 32) (oi := { dst := some 90, op := _, type := _, pos := _, after := _, guard := _ }) rfl (by kernel_rfl) (by kernel_rfl) (by kernel_rfl) (fun _ _ _ h => h) (Or.inl ⟨by rfl, fun w _ => by go_simp; rfl⟩) hHeld ?_
        simp only [Act.put, List.setIfInBounds_toArray, List.set_cons_zero, List.set_cons_succ]
        refine wpAnyH_take (i := 33) (oi := { dst := some 91, op := _, type := _, pos := _, after := _, guard := _ }) rfl (by kernel_rfl) (by kernel_rfl) (by kernel_rfl) (fun _ _ _ h => h) (Or.inl ⟨by rfl, fun w _ => by go_simp; rfl⟩) hHeld ?_
        simp only [Act.put, List.setIfInBounds_toArray, List.set_cons_zero, List.set_cons_succ]
        refine wpAnyH_take (i := 34) (oi := { dst := some 92, op := _, type := _, pos := _, after := _, guard := _ }) rfl (by kernel_rfl) (by kernel_rfl) (by kernel_rfl) (fun _ _ _ h => h) (Or.inl ⟨by rfl, fun w _ => by go_simp; rfl⟩) hHeld ?_
        simp only [Act.put, List.setIfInBounds_toArray, List.set_cons_zero, List.set_cons_succ]
        refine wpAnyH_ready (rs := [35]) (by kernel_rfl) (by simp) (AllReadyH.cons (o := { dst := some 11, op := _, type := _, pos := _, after := _, guard := _ }) rfl (fun K hK => ?_) AllReadyH.nil)
        go_simp
        refine hK.out _ _ hHeld (fun hHeld => ?_)
        clear hK K
        refine wpAnyH_done (by kernel_rfl) ?_ _
        go_wp2_with fail
        go_roundw
        case rel => exact ⟨rfl, i + 1, hlt, by go_num, hHeld⟩
        case measure => simp [intOf]; omega
    · obtain rfl : i = os.length + 8 := by omega
      obtain ⟨av, cv, rfl⟩ := OwnB.form1 hPr.own
      have HPr : Hid (PKS _ _ _ _ _ _ _ _ _ _) := hPr
      have HV : Hid (∀ b, (Value.slice av L.length cv).ownBlock = some b → w.heap.size + 2 ≤ b ∧ b < wr.heap.size) := fun b e => hPr.own.lt b e
      have hL3 : L.length + 3 ≤ 140737488355328 := by omega
      have hL4 : ((os ++ ozs 8).length + 3) * 40 ≤ 140737488355328 := by rw [List.length_append, ozs_len]; omega
      have hls : w.heap.size + 1 < wr.heap.size := (OwnO.lt1 hPr.lst)
      clear hPr HP6 HOp HN hn63 hi hcv
      go_wp2_with fail
      refine (keep_first (X := fun b => b = w.heap.size + 1) HW.out.1 HW.out.2 HPr.out.below _ rfl (vb := .slice av L.length cv) (vo := .slice none 0 0) (vl := .slice none 0 0) (fun b e => ⟨by have := (HV.out b (ownX_b e)).1; omega, (HV.out b (ownX_b e)).2⟩) (bytes_raw HPr.out.own rfl) hL3 (by decide) (by decide) (fun b e => ⟨by omega, by omega, fun h => by have := (HV.out b (ownX_b h)).1; omega⟩)).mono ?_
      rintro e w7 ⟨rfl, HM1, -, HX7⟩
      have HL7 : Hid (OwnO w7 w.heap.size (.slice (some ⟨w.heap.size + 1, 0, none⟩) (os.length + 8) (os.length + 8)) (os ++ ozs 8)) := own_frame HPr.out.lst fun g hg => by cases hg; exact HX7 _ rfl
      have HM : Hid (Mid1 _ _ _ _ _ _ _ _) := HM1
      clear HM1 HX7 HPr
      go_wp2_with fail
      refine (keep_again HW.out.1 HW.out.2 HM.out (Below.refl _ _) _ rfl (ub := .slice none 0 0) (uo := (.slice (some ⟨w.heap.size + 1, 0, none⟩) (os.length + 8) (os.length + 8))) (ul := .slice none 0 0) (fun b e => by have h := ownX_ops e; cases h; rfl) (ops_raw HL7.out rfl) (by decide) hL4 (by decide)).mono ?_
      rintro e w9 ⟨rfl, hl⟩
      go_wp2_with fail
      go_ret
      exact ⟨rfl, hl⟩
end Go.Proofs.YtgccjefbedpmpaaGreatDoor
namespace Go.Proofs.YtgccjefbedpmpaaGreatDoor
open Go.RowKit
set_option maxRecDepth 100000 in
set_option maxHeartbeats 1000000 in
theorem freeP_any (f : Frm) (a : Option Addr) (cap : Nat) (hT : FrmT f) (hn : f.ops.length * 40 ≤ 140737488351232) (s : ByteArray) (hs : s.size ≤ 140737488351232) (x1 x2 x12 x13 x14 x15 x16 x17 x18 x19 x20 x21 x22 : Value) (wd : Nat) (vP vH : Value) (F : Nat → Prop) (H : List Nat) (w : World) (hO : WOk w wd RV vP vH F H) (hH : (H.length + 8) * 8 ≤ 140737488355328) (hE : Env w) (hOp : OpsIs w a f.ops) :
   Calls Tryz.prog 76 #[.pointer (some ⟨wd, 0, none⟩), .agg #[.int .i64 2, x1, x2, .string s, .int .i64 f.kd, .int .u32 f.ss, .int .u64 f.lo, .int .u64 f.hi, .int .u8 f.d0, .int .u8 f.d1, .int .u8 f.d2, .slice a f.ops.length cap, x12, x13, x14, x15, x16, x17, x18, x19, x20, x21, x22]] w fun e w' => e = .returned (.bool true) ∧ LeftN w w' wd vP vH H := by
  have hP := fun W (hB : Below w.heap.size w W) => packed_any f a cap hT hn wd vP vH F H W (hO.grown hB) hH (hE.below hB) (hOp.below hB)
  unfold Frm.val at hP
  have HP : Hid (∀ W, Below w.heap.size w W → Calls Tryz.prog 127 #[.pointer (some ⟨wd, 0, none⟩), .agg #[.int .i64 f.kd, .int .u32 f.ss, .int .u64 f.lo, .int .u64 f.hi, .int .u8 f.d0, .int .u8 f.d1, .int .u8 f.d2, .slice a f.ops.length cap]] W fun e w' => e = .returned (.bool true) ∧ LeftN W w' wd vP vH H) := hP
  clear hP hE hOp hO hH hT hn
  go_enter Tryz.func76, Tryz.ntmps76
  go_wp2_with (first
    | (go_at_call 126; refine (lent_any s hs _).mono ?_; rintro e w1 ⟨rfl, hL, hb1⟩; have hB1 : Below w.heap.size w w1 := ((Below.refl _ _).alloc (Nat.le_refl _) _).trans (hb1.mono (by simp)); have kk : ∀ j v, (#[Value.int .i64 2, x1, x2, .string s, .int .i64 f.kd, .int .u32 f.ss, .int .u64 f.lo, .int .u64 f.hi, .int .u8 f.d0, .int .u8 f.d1, .int .u8 f.d2, .slice a f.ops.length cap, x12, x13, x14, x15, x16, x17, x18, x19, x20, x21, x22])[j]? = some v → w1.cell? ⟨w.heap.size, j, none⟩ = some v := (fun j v h => (hb1.cell (p := ⟨w.heap.size, j, none⟩) (by simp)).trans ((cell_of_row _ _ _ _ _ _ (heap_alloc_new w _)).trans h)); have k0 := kk 0 _ rfl; have k4 := kk 4 _ rfl; have k5 := kk 5 _ rfl; have k6 := kk 6 _ rfl; have k7 := kk 7 _ rfl; have k8 := kk 8 _ rfl; have k9 := kk 9 _ rfl; have k10 := kk 10 _ rfl; have k11 := kk 11 _ rfl; clear kk hL hb1)
    | (go_at_call 127; refine (HP.out _ hB1).mono ?_; rintro e w2 ⟨rfl, hl⟩))
  go_ret
  exact ⟨rfl, LeftN.of_below hB1 hl⟩
end Go.Proofs.YtgccjefbedpmpaaGreatDoor

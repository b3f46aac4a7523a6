import Derived.Test.YtcjohccaigflgaaGreatDoorMid
import Derived.Deep.RegionHeld3
namespace Go.Proofs.YtcjohccaigflgaaGreatDoor
open Go.RowKit
set_option maxRecDepth 100000 in
set_option maxHeartbeats 2000000 in
theorem longer_any {hb : Nat} {mk : Int} {vb vo vl : Value} {nb no nl : Nat} {ls : List Value} {w : World} (h : HoldRaw w hb mk vb vo vl nb no nl (signs mk nb) (opms mk no) ls) (hmk : 0 ≤ mk) (hmk2 : mk ≤ 9223372036854775807)
    (s1 : nb + 1 ≤ 140737488355328) (s2 : (no + 1) * 40 ≤ 140737488355328) (s3 : (nl + 1) * 24 ≤ 140737488355328) :
    Calls Tryz.prog 116 #[.pointer (some ⟨hb, 0, none⟩)] w fun e w' => e = .returned (.pointer (some ⟨w.heap.size, 0, none⟩)) ∧ ∃ V1 V2 V3, HoldRaw w' w.heap.size mk V1 V2 V3 (nb + 1) (no + 1) (nl + 1) (signs mk (nb + 1)) (opms mk (no + 1)) (ls ++ [.slice (some ⟨w.heap.size + 1, 0, none⟩) 3 3]) ∧ Mid w w' mk vb vo vl nb no nl V1 V2 V3 := by
  obtain ⟨ib, bi, bz0, bz1, bz2⟩ := info_parts infoB
  obtain ⟨io, oi, oz0, oz1, oz2⟩ := info_parts infoO
  obtain ⟨il, li, lz0, lz1, lz2⟩ := info_parts infoL
  have h0 : w.cell? ⟨hb, 0, none⟩ = some vb := h.row.cell (by omega)
  have h1 : w.cell? ⟨hb, 1, none⟩ = some vo := h.row.cell (by omega)
  have h2 : w.cell? ⟨hb, 2, none⟩ = some vl := h.row.cell (by omega)
  have h3 : w.cell? ⟨hb, 3, none⟩ = some (.int .i64 mk) := h.row.cell (by omega)
  obtain ⟨ab, cb, rfl, -⟩ := own_viewN h.ob
  have hbl := h.row.lt
  go_enter Tryz.func116, Tryz.ntmps116
  go_wp2
  go_quiet ((go_at_call 126; refine (sign_any _ _ _).mono ?_; rintro e w' ⟨rfl, rfl⟩; first | exact ⟨rfl, _, rfl⟩))
  have hB1 : Below w.heap.size w (((w.alloc (.cells #[.slice none 0 0, .slice none 0 0, .slice none 0 0, .int .i64 mk] 144)).drewN nq).alloc (.cells (lst mk) 5)) := (below_drewN ((Below.refl _ _).alloc (Nat.le_refl _) _) _).alloc (by simp) _
  have hB2 := hB1.alloc hB1.size (.cells #[.int .u8 (sg mk nb)] 5)
  have rB0 := ((RowIs.drewM (RowIs.last (w := w) (t := 144) (cs := #[.slice none 0 0, .slice none 0 0, .slice none 0 0, .int .i64 mk]) (n := 4) (f := hold4 (.slice none 0 0) (.slice none 0 0) (.slice none 0 0) mk) rfl rfl) nq).alloc (.cells (lst mk) 5)).alloc (.cells #[.int .u8 (sg mk nb)] 5)
  have hM0 : Mid w _ mk (.slice ab nb cb) vo vl nb no nl (.slice none 0 0) (.slice none 0 0) (.slice none 0 0) := ⟨Kept.below hB2, rB0, (heap_old (by simp)).trans (heap_last (by simp)), fun b hx => (by cases hx), fun b hx => (by cases hx), fun b hx => (by cases hx)⟩
  go_wp2_with (first
    | (go_at_call 127; refine (listed_any _ _).mono ?_; rintro e w' ⟨rfl, rfl⟩)
    | (at_builtin; refine wpList_append_keep _ rfl (.tmp 31) (.tmp 33) 59 rfl 5 ib (.int .u8 0) 1 1 Tryz.underlying59 bi bz0 bz1 bz2 rfl (by decide) (.slice ab nb cb) nb (signs mk nb) rfl (own_below h.ob hB2) ⟨w.heap.size + 2, 0, none⟩ 1 1 [.int .u8 (sg mk nb)] rfl rfl ?hn (by simp [Value.oneCell']) (by omega) (by unfold maxLen; omega) (by omega) ?_; (case hn => exact World.news_of_block (heap_last (by simp))); intro v1 w1 ho1 hg1; obtain ⟨a1, c1, rfl, -⟩ := own_viewN ho1; have hM1 := hM0.grewB h hg1; have ho1' := own_set ho1 (hg1.row (own_below h.ob hB2) rB0 (by decide)) (by decide) 0 (.slice a1 (nb + 1) c1); have rB := hg1.row (own_below h.ob hB2) rB0 (by decide); have b0 := rB.cell (show 0 < 4 by omega); have fb := rB.free 0))
  obtain ⟨wA, hwA⟩ : ∃ x, x = w1.setCell ⟨w.heap.size, 0, none⟩ (.slice a1 (nb + 1) c1) := ⟨_, rfl⟩
  rw [← hwA] at hM1 ho1' ⊢
  clear hwA b0 fb rB hg1 ho1 hM0 rB0 hB2 hB1 w1 h0 h1 h2 h3
  rw [← signs_succ] at ho1'
  have hrA := hM1.kept.raw h
  have p1 : wA.cell? ⟨hb, 1, none⟩ = some vo := hrA.row.cell (by omega)
  have p3 : wA.cell? ⟨hb, 3, none⟩ = some (.int .i64 mk) := hrA.row.cell (by omega)
  have wu : IntKind.u64.wrap mk = mk := by have := hmk; have := hmk2; simp [IntKind.wrap, IntKind.bits, IntKind.signed]; omega
  have hba : hb < wA.heap.size := hrA.row.lt
  have hBo : Below wA.heap.size wA (wA.alloc (.cells #[.int .i64 9, .int .u32 0, .int .u32 0, .int .u32 0, .int .u64 mk, .int .i32 0] 43)).drew := below_drewN ((Below.refl _ _).alloc (Nat.le_refl _) _) 1
  have oO := own_below hrA.oo hBo
  have hMo := hM1.below hBo
  go_region_held3 (fun w' => w'.cell? ⟨hb, 1, none⟩ = some vo ∧ w'.cell? ⟨hb, 3, none⟩ = some (.int .i64 mk)) (go_keep) (((refine step_append_keep _ rfl (.tmp 41) (.tmp 48) 32 rfl 43 io _ 6 40 Tryz.underlying32 oi oz0 oz1 oz2 rfl (by decide) vo no (opms mk no) rfl oO ⟨wA.heap.size, 0, none⟩ 1 1 [.int .i64 9, .int .u32 0, .int .u32 0, .int .u32 0, .int .u64 mk, .int .i32 0] rfl rfl ?hn (by simp [Value.oneCell']) (by omega) (by unfold maxLen; omega) (by omega) ?_); (case hn => exact World.news_of_block (heap_alloc_new wA _)); (intro v2 w2 ho2 hg2; obtain ⟨a2, c2, rfl, -⟩ := own_viewN ho2; have hM2 := hMo.grewO h hg2; have rH2 := hg2.row oO (hrA.row.below hBo hba) (by decide); have rB2 := hg2.row oO hMo.row (by decide); have ho1'' := own_set (hg2.apart oO (own_below ho1' hBo) (by decide)) rB2 (by decide) 1 (.slice a2 (no + 1) c2); have ho2' := own_set ho2 rB2 (by decide) 1 (.slice a2 (no + 1) c2); have b1 := rB2.cell (show 1 < 4 by omega); have fb1 := rB2.free 1; have hS2 : w2.cell? ⟨hb, 1, none⟩ = some vo ∧ w2.cell? ⟨hb, 3, none⟩ = some (.int .i64 mk) := ⟨rH2.cell (by omega), rH2.cell (by omega)⟩; have q1 := setCell_two (k := 1) (show w.heap.size ≠ hb by omega) hS2.1 (.slice a2 (no + 1) c2); have q3 := setCell_two (k := 1) (show w.heap.size ≠ hb by omega) hS2.2 (.slice a2 (no + 1) c2); have hS3 := And.intro q1 q3)))
  obtain ⟨wB, hwB⟩ : ∃ x, x = w2.setCell ⟨w.heap.size, 1, none⟩ (.slice a2 (no + 1) c2) := ⟨_, rfl⟩
  rw [← hwB] at hM2 ho1'' ho2' ⊢
  clear hwB b1 fb1 rB2 rH2 hg2 ho2 hMo oO hBo hS2 q1 q3 hS3
  rw [← opms_succ] at ho2'
  have hrB := hM2.kept.raw h
  have r2 : wB.cell? ⟨hb, 2, none⟩ = some vl := hrB.row.cell (by omega)
  have hBl : Below wB.heap.size wB (wB.alloc (.cells #[.slice (some ⟨w.heap.size + 1, 0, none⟩) 3 3] 59)) := (Below.refl _ _).alloc (Nat.le_refl _) _
  have oL := own_below hrB.ol hBl
  have hMl := hM2.below hBl
  go_wp2_with (first
    | (at_builtin; refine wpList_append_keep _ rfl (.tmp 56) (.tmp 58) 68 rfl 59 il (.slice none 0 0) 1 24 Tryz.underlying68 li lz0 lz1 lz2 rfl (by decide) vl nl ls rfl oL ⟨wB.heap.size, 0, none⟩ 1 1 [.slice (some ⟨w.heap.size + 1, 0, none⟩) 3 3] rfl rfl ?hn (by simp [Value.oneCell']) (by omega) (by unfold maxLen; omega) (by omega) ?_; (case hn => exact World.news_of_block (heap_alloc_new wB _)); intro v3 w3 ho3 hg3; obtain ⟨a3, c3, rfl, -⟩ := own_viewN ho3; have hM3 := hMl.grewL h hg3; have rB3 := hg3.row oL hMl.row (by decide); have h1'' := own_set (hg3.apart oL (own_below ho1'' hBl) (by decide)) rB3 (by decide) 2 (.slice a3 (nl + 1) c3); have h2'' := own_set (hg3.apart oL (own_below ho2' hBl) (by decide)) rB3 (by decide) 2 (.slice a3 (nl + 1) c3); have h3'' := own_set ho3 rB3 (by decide) 2 (.slice a3 (nl + 1) c3); have b2 := rB3.cell (show 2 < 4 by omega); have fb2 := rB3.free 2))
  go_ret
  exact ⟨rfl, _, _, _, ⟨hM3.row, h1'', h2'', h3''⟩, hM3⟩
end Go.Proofs.YtcjohccaigflgaaGreatDoor

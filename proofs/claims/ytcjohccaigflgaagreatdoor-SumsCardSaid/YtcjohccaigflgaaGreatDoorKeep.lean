import Derived.Test.YtcjohccaigflgaaGreatDoorKst
import Derived.Deep.RegionHeld3
namespace Go.Proofs.YtcjohccaigflgaaGreatDoor
open Go.RowKit
section
variable {w : World} {wd : Nat} {R : Nat → Int} {vP vH : Value} {F : Nat → Prop} {hs : List Nat} {hb : Nat} {m0 mk : Int} {vb vo vl : Value} {nb no nl : Nat} {xb xo xl : List Value}
theorem HoldRaw.mark (hr : HoldRaw w hb m0 vb vo vl nb no nl xb xo xl) (mk : Int) : HoldRaw (w.setCell ⟨hb, 3, none⟩ (.int .i64 mk)) hb mk vb vo vl nb no nl xb xo xl :=
  ⟨(hr.row.set 3 _).congr (fun j hj => by match j with | 0 => rfl | 1 => rfl | 2 => rfl | 3 => rfl), own_set hr.ob hr.row (by decide) _ _, own_set hr.oo hr.row (by decide) _ _, own_set hr.ol hr.row (by decide) _ _⟩
theorem Kst.first (p : Pre w wd R vP vH F hs hb vb vo vl) {w1 : World} {ls : List Value} (hraw : HoldRaw w1 hb mk vb vo vl nb no nl (signs mk nb) (opms mk no) ls)
    (hls : ∀ v ∈ ls, ListOk w1 (fun b => (w.setCell ⟨hb, 3, none⟩ (.int .i64 mk)).heap.size ≤ b ∧ b < w1.heap.size) mk v) (hbut : But (ownX vb vo vl) (w.setCell ⟨hb, 3, none⟩ (.int .i64 mk)) w1) :
    Kst w w1 wd R vP vH F hs hb vb vo vl mk 0 nb no nl vH hs hb vb vo vl ls := by
  have hss : (w.setCell ⟨hb, 3, none⟩ (.int .i64 mk)).heap.size = w.heap.size := by simp [World.setCell]
  have h1s := hbut.size
  rw [hss] at h1s
  have hf : ∀ b, b < w.heap.size → ¬ (b = hb ∨ ownX vb vo vl b) → w1.heap[b]? = w.heap[b]? := fun b h1 h2 => (hbut.block b (by omega) fun e => h2 (Or.inr e)).trans (heap_setCell_other _ _ _ _ fun e => h2 (Or.inl e))
  have hHlt : ∀ b, vH.ownBlock = some b → b < w.heap.size := fun b e => (p.ok.own.lt b e).2
  refine ⟨(hf wd p.ok.row.lt fun e => (p.far wd e).2.2.1 rfl).trans p.ok.row, own_frame p.ok.own fun y hy => hf y (hHlt y hy) fun e => (p.far y e).2.2.2 hy, rfl, fun _ e => Or.inl e, fun x hx => ?_, hraw, fun v hv => ?_, Or.inl rfl, fun _ e => Or.inr (Or.inl e), ?_⟩
  · obtain ⟨a, b, c, d, h⟩ := p.ok.holds x hx
    exact Or.inl ⟨a, b, c, d, h.frame fun y hy => hf y (p.ok.below y hy) fun e => (p.far y e).2.1 hy⟩
  · exact (hls v hv).mono fun b e => ⟨Or.inr (Or.inr ⟨by omega, e.2, fun e1 => by have := hHlt b e1; omega⟩), fun e1 => by have := (p.far b (Or.inr e1)).1; omega⟩
  · exact ⟨h1s, hbut.os.trans (by simp [World.setCell]), hbut.tape.trans rfl, hbut.output.trans (by simp [World.setCell]), fun b hb hx => hf b hb fun e => hx (Or.inr (e.elim Or.inl fun e => Or.inr (Or.inl e)))⟩
end
theorem szA {n k b c : Nat} (h : (n + 3) * b ≤ c) (hk : k < 3) : (n + k + 1) * b ≤ c := Nat.le_trans (Nat.mul_le_mul_right b (by omega)) h
theorem szB {n k b c : Nat} (h : (n + 4) * b ≤ c) (hk : k < 3) : (n + (k + 1) + 1) * b ≤ c := Nat.le_trans (Nat.mul_le_mul_right b (by omega)) h
theorem szC {n : Nat} (h : (n + 1) * 8 ≤ 140737488355328) : n + 1 ≤ maxLen := by unfold maxLen; omega
theorem szD {n : Nat} (h : (n + 4) * 8 ≤ 140737488355328) : (n : Int) + 1 ≤ 9223372036854775807 := by omega
theorem szE {n k c : Nat} (h : n + 3 ≤ c) (hk : k < 3) : n + k + 1 ≤ c := by omega
theorem infoH : (Tryz.prog.info? 142).map (fun i => (i.zero, i.size, i.bytes)) = some (some (.pointer none), 1, 8) := by kernel_rfl
set_option maxRecDepth 100000 in
set_option maxHeartbeats 2000000 in
theorem keep_any {w : World} {wd : Nat} {R : Nat → Int} {vP vH : Value} {F : Nat → Prop} {hs : List Nat} {hb : Nat} {m0 : Int} {vb vo vl : Value} {nb no nl : Nat} {xb xo xl : List Value} (p : Pre w wd R vP vH F hs hb vb vo vl) (hr : HoldRaw w hb m0 vb vo vl nb no nl xb xo xl)
    (s0 : (hs.length + 4) * 8 ≤ 140737488355328) (s1 : nb + 3 ≤ 140737488355328) (s2 : (no + 3) * 40 ≤ 140737488355328) (s3 : (nl + 3) * 24 ≤ 140737488355328) :
    Calls Tryz.prog 66 #[.pointer (some ⟨wd, 0, none⟩), .pointer (some ⟨hb, 0, none⟩)] w fun e w' => e = .returned (.tuple #[]) ∧ ∃ n1 n2 n3 vH' hs' g V1 V2 V3 ls, Kst w w' wd R vP vH F hs hb vb vo vl (hs.length + 1) 4 n1 n2 n3 vH' hs' g V1 V2 V3 ls := by
  obtain ⟨ip, pi, pz0, pz1, pz2⟩ := info_parts infoH
  obtain ⟨aH, cH, rfl, -⟩ := own_viewN p.ok.own
  have c73 : w.cell? ⟨wd, 73, none⟩ = some (.slice aH hs.length cH) := p.ok.row.cell (by omega)
  have h3 : w.cell? ⟨hb, 3, none⟩ = some (.int .i64 m0) := hr.row.cell (by omega)
  have f3 := hr.row.free 3
  go_enter Tryz.func66, Tryz.ntmps66
  go_wp2_with (first
    | (go_at_call 115; refine (marks_any (hr.mark ((hs.length : Int) + 1)) (by omega) (by omega)).mono ?_; rintro e w1 ⟨rfl, ⟨ls, hraw, hls⟩, hbut⟩; have k0 := Kst.first p hraw hls hbut; have k73 : w1.cell? ⟨wd, 73, none⟩ = some (.slice aH hs.length cH) := k0.row.cell (by omega); have hA : Below w1.heap.size w1 (w1.alloc (.cells #[.pointer (some ⟨hb, 0, none⟩)] 142)) := (Below.refl _ _).alloc (Nat.le_refl _) _; clear hraw hls hbut)
    | (at_builtin; refine wpList_append_keep _ rfl (.tmp 21) (.tmp 23) 86 rfl 142 ip (.pointer none) 1 8 Tryz.underlying86 pi pz0 pz1 pz2 rfl (by decide) (.slice aH hs.length cH) hs.length (ptrs hs) rfl (own_below k0.own hA) ⟨w1.heap.size, 0, none⟩ 1 1 [.pointer (some ⟨hb, 0, none⟩)] rfl rfl ?hn (by simp [Value.oneCell']) (by omega) (by unfold maxLen; omega) (by omega) ?_; (case hn => exact World.news_of_block (heap_alloc_new w1 _)); intro v2 w2 ho2 hg2; obtain ⟨a2, c2, rfl, -⟩ := own_viewN ho2; have k1 := k0.push p hA hg2 ho2; have rW := hg2.row (own_below k0.own hA) (k0.row.below hA k0.row.lt) (by decide); have b73 := rW.cell (show 73 < 74 by omega); have fb73 := rW.free 73))
  clear b73 fb73 rW hg2 ho2 k73 hA c73 h3 f3 k0
  go_loopw [4, 5] (fun gv i wr => ∃ k : Nat, k ≤ 3 ∧ i = .int .i64 k ∧ ∃ vH' hs' g V1 V2 V3 ls, gv = .pointer (some ⟨g, 0, none⟩) ∧ Kst w wr wd R vP (.slice aH hs.length cH) F hs hb vb vo vl (hs.length + 1) (k + 1) (nb + k) (no + k) (nl + k) vH' hs' g V1 V2 V3 ls) (fun _ i _ => 3 - (intOf i).toNat)
  case atStart => exact ⟨0, by omega, rfl, _, _, _, _, _, _, _, rfl, k1⟩
  case round =>
    obtain ⟨k, hk, rfl, vH', hs', g, V1, V2, V3, lq, rfl, K⟩ := hrel
    clear k1
    by_cases hlt : k < 3
    · have lk : (k : Int) < 3 := by omega
      have t1 := szE s1 hlt
      have t2 := szA s2 hlt
      have t3 := szA s3 hlt
      have t4 : (0 : Int) ≤ (hs.length : Int) + 1 := Int.le_add_one (Int.natCast_nonneg _)
      have t5 := szD s0
      have t8 := szB s0 hlt
      obtain ⟨N, hN⟩ : ∃ N, hs.length + (k + 1) = N := ⟨_, rfl⟩
      have KO := K.own
      rw [hN] at KO
      obtain ⟨aN, cN, rfl, -⟩ := own_viewN KO
      clear KO
      rw [hN] at t8
      have t7 := szC t8
      go_wp2_with (first
        | (go_at_call 116; refine (longer_any K.raw t4 t5 t1 t2 t3).mono ?_; rintro e w3 ⟨rfl, U1, U2, U3, hr3, m3⟩; have K3 := K.longer p hr3 m3; have k73 : w3.cell? ⟨wd, 73, none⟩ = some (.slice aN N cN) := K3.row.cell (by omega); have hA : Below w3.heap.size w3 (w3.alloc (.cells #[.pointer (some ⟨wr.heap.size, 0, none⟩)] 142)) := (Below.refl _ _).alloc (Nat.le_refl _) _; have O3 := own_below K3.own hA; rw [hN] at O3; have RW3 := K3.row.below hA K3.row.lt; clear hr3 m3)
        | (at_builtin; refine wpList_append_keep _ rfl (.tmp 38) (.tmp 40) 86 rfl 142 ip (.pointer none) 1 8 Tryz.underlying86 pi pz0 pz1 pz2 rfl (by decide) (.slice aN N cN) N (ptrs hs') rfl O3 ⟨w3.heap.size, 0, none⟩ 1 1 [.pointer (some ⟨wr.heap.size, 0, none⟩)] rfl rfl ?hn (by simp [Value.oneCell']) (by decide) t7 t8 ?_; (case hn => exact World.news_of_block (heap_alloc_new w3 _)); intro v2 w4 ho2 hg2; obtain ⟨a2, c2, rfl, -⟩ := own_viewN ho2; have K4 := K3.push p hA (by rw [hN]; exact hg2) (by rw [hN]; exact ho2); have rW := hg2.row O3 RW3 (by decide); have b73 := rW.cell (show 73 < 74 by omega); have fb73 := rW.free 73))
      go_roundw
      case rel => exact ⟨k + 1, hlt, by go_num, _, _, _, _, _, _, _, rfl, K4⟩
      case measure => simp [intOf]; omega
    · obtain rfl : k = 3 := by omega
      go_wp2
      go_end0
      exact ⟨rfl, _, _, _, _, _, _, _, _, _, _, K⟩
end Go.Proofs.YtcjohccaigflgaaGreatDoor

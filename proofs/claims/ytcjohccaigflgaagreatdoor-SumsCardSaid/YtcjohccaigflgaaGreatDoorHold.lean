import Derived.Test.YtcjohccaigflgaaGreatDoorWords
import Derived.Test.YtcjohccaigflgaaGreatDoorMem
import Derived.Deep.QuietTactic
import Derived.BigQuiet
namespace Go.Proofs.YtcjohccaigflgaaGreatDoor
open Go.RowKit
def lstL (a : Int) : List Int := [a % 256, wrap64 (a.tdiv 256) % 256, 77]
def lst (a : Int) : Array Value := #[.int .u8 (a % 256), .int .u8 (wrap64 (a.tdiv 256) % 256), .int .u8 77]
theorem listed_any (a : Int) (w : World) :
    Calls Tryz.prog 127 #[.int .i64 a] w fun e w' => e = .returned (.slice (some ⟨w.heap.size, 0, none⟩) 3 3) ∧ w' = w.alloc (.cells (lst a) 5) := by
  go_enter Tryz.func127, Tryz.ntmps127
  go_wp2
  go_ret
  exact ⟨rfl, rfl⟩
def hold4 (vb vo vl : Value) (mk : Int) : Nat → Value
  | 0 => vb
  | 1 => vo
  | 2 => vl
  | _ => .int .i64 mk
def signs (mk : Int) (n : Nat) : List Value := (List.range n).map fun (i : Nat) => .int .u8 (sg mk i)
/-- The k-th cell of a marked operation. -/
def opc (mk : Int) : Nat → Value
  | 0 => .int .i64 9
  | 1 => .int .u32 0
  | 2 => .int .u32 0
  | 3 => .int .u32 0
  | 4 => .int .u64 mk
  | _ => .int .i32 0
def opms (mk : Int) (n : Nat) : List Value := (List.range (n * 6)).map fun i => opc mk (i % 6)
/-- A list of the hold's lists: it lies in a block of its own. -/
def ListOk (w : World) (F : Nat → Prop) (mk : Int) (v : Value) : Prop := ∃ g, v = .slice (some ⟨g, 0, none⟩) 3 3 ∧ F g ∧ w.heap[g]? = some (.cells (lst mk) 5 (0, 0))
/-- A hold that reads as it was marked; F: its blocks. -/
structure HoldOk (w : World) (F : Nat → Prop) (hb : Nat) (mk : Int) (nb no nl : Nat) : Prop where
  inF : F hb
  pos : 0 ≤ mk ∧ mk ≤ 9223372036854775807
  row : ∃ vb vo vl ls, RowIs w hb 144 4 (hold4 vb vo vl mk) ∧ (w.ownsRow 0 5 1 vb nb (signs mk nb) ∧ ∀ g, vb.ownBlock = some g → F g) ∧
    (w.ownsRow 0 43 6 vo no (opms mk no) ∧ ∀ g, vo.ownBlock = some g → F g) ∧ (w.ownsRow 0 59 1 vl nl ls ∧ ∀ g, vl.ownBlock = some g → F g) ∧ ∀ v ∈ ls, ListOk w F mk v
theorem own_frame {w w' : World} {base e size n : Nat} {v : Value} {xs : List Value} (h : w.ownsRow base e size v n xs) (hf : ∀ g, v.ownBlock = some g → w'.heap[g]? = w.heap[g]?) : w'.ownsRow base e size v n xs := by
  refine ⟨h.1, ?_⟩
  rcases h.2 with h2 | ⟨g, cap, cur, rfl, h3, h4, h5, h6, h7, h8⟩
  · exact .inl h2
  · exact .inr ⟨g, cap, cur, rfl, h3, (hf g rfl).trans h4, h5, h6, h7, h8⟩
theorem HoldOk.frame {w w' : World} {F : Nat → Prop} {hb : Nat} {mk : Int} {nb no nl : Nat} (h : HoldOk w F hb mk nb no nl) (hf : ∀ b, F b → w'.heap[b]? = w.heap[b]?) : HoldOk w' F hb mk nb no nl := by
  obtain ⟨hF, hp, vb, vo, vl, ls, hr, ⟨h1, f1⟩, ⟨h2, f2⟩, ⟨h3, f3⟩, h4⟩ := h
  refine ⟨hF, hp, vb, vo, vl, ls, ?_, ⟨own_frame h1 fun g hg => hf g (f1 g hg), f1⟩, ⟨own_frame h2 fun g hg => hf g (f2 g hg), f2⟩, ⟨own_frame h3 fun g hg => hf g (f3 g hg), f3⟩, ?_⟩
  · unfold RowIs; rw [hf hb hF]; exact hr
  · intro v hv
    obtain ⟨g, rfl, hg, hh⟩ := h4 v hv
    exact ⟨g, rfl, hg, (hf g hg).trans hh⟩
theorem HoldOk.mono {w : World} {F F' : Nat → Prop} {hb : Nat} {mk : Int} {nb no nl : Nat} (h : HoldOk w F hb mk nb no nl) (hf : ∀ b, F b → F' b) : HoldOk w F' hb mk nb no nl := by
  obtain ⟨hF, hp, vb, vo, vl, ls, hr, ⟨h1, f1⟩, ⟨h2, f2⟩, ⟨h3, f3⟩, h4⟩ := h
  exact ⟨hf _ hF, hp, vb, vo, vl, ls, hr, ⟨h1, fun g hg => hf g (f1 g hg)⟩, ⟨h2, fun g hg => hf g (f2 g hg)⟩, ⟨h3, fun g hg => hf g (f3 g hg)⟩, fun v hv => by
    obtain ⟨g, rfl, hg, hh⟩ := h4 v hv
    exact ⟨g, rfl, hf g hg, hh⟩⟩
theorem own_viewN {w : World} {base e size : Nat} {v : Value} {n : Nat} {xs : List Value} (h : w.ownsRow base e size v n xs) :
    ∃ ao cap, v = .slice ao n cap ∧ ∀ i, i < n → ∃ g, ao = some ⟨g, 0, none⟩ ∧ ∀ j, j < n * size → w.cell? ⟨g, j, none⟩ = xs[j]? := by
  rcases h.2 with ⟨rfl, rfl⟩ | ⟨g, cap, cur, rfl, hb, hh, hn, hm, hc, ht⟩
  · exact ⟨none, 0, rfl, fun i hi => absurd hi (by omega)⟩
  · exact ⟨_, cap, rfl, fun i hi => ⟨g, rfl, fun j hj => h.cellAt j hj⟩⟩
theorem signs_get {mk : Int} {n i : Nat} (h : i < n) : (signs mk n)[i]? = some (.int .u8 (sg mk i)) := by simp [signs, h]
theorem opms_get {mk : Int} {n i : Nat} (h : i < n * 6) : (opms mk n)[i]? = some (opc mk (i % 6)) := by simp [opms, h]
theorem own_len {w : World} {base e size : Nat} {v : Value} {n : Nat} {xs : List Value} (h : w.ownsRow base e size v n xs) : n ≤ 9223372036854775807 := by
  rcases h.2 with ⟨rfl, rfl⟩ | ⟨g, cap, cur, rfl, hb, hh, hn, hm, hc, ht⟩
  · omega
  · unfold maxLen at hm; omega
theorem conv_lst (a : Int) (g : Nat) (W : World) (h : W.heap[g]? = some (.cells (lst a) 5 (0, 0))) : (convert 59 9 (.slice (some ⟨g, 0, none⟩) 3 3)).run Tryz.prog W = .ok (.string (strOfNums (lstL a))) W :=
  run_convert_bytes_arg W 59 5 Tryz.underlying59 Tryz.underlying5 g 0 3 3 (lstL a) rfl (fun i hi => by
    rw [cell_of_row _ _ _ _ _ _ h]
    match i, hi with
    | 0, _ => rfl
    | 1, _ => rfl
    | 2, _ => rfl) _ Tryz.underlying9
set_option maxHeartbeats 1000000 in
theorem marked_any {F : Nat → Prop} {hb : Nat} {mk : Int} {nb no nl : Nat} {w : World} (h : HoldOk w F hb mk nb no nl) (hF : ∀ b, F b → b < w.heap.size) :
    Calls Tryz.prog 69 #[.pointer (some ⟨hb, 0, none⟩)] w fun e w' => e = .returned (.bool true) ∧ Below w.heap.size w w' := by
  obtain ⟨hFb, hp, vb, vo, vl, ls, hr, ⟨o1, f1⟩, ⟨o2, f2⟩, ⟨o3, f3⟩, h4⟩ := h
  obtain ⟨ab, cb, rfl, v1⟩ := own_viewN o1
  obtain ⟨aop, co, rfl, v2⟩ := own_viewN o2
  obtain ⟨al, cl, rfl, v3⟩ := own_viewN o3
  have l1 := own_len o1
  have l2 := own_len o2
  have l3 := own_len o3
  have h0 : w.cell? ⟨hb, 0, none⟩ = some (.slice ab nb cb) := hr.cell (by omega)
  have h1 : w.cell? ⟨hb, 1, none⟩ = some (.slice aop no co) := hr.cell (by omega)
  have h2 : w.cell? ⟨hb, 2, none⟩ = some (.slice al nl cl) := hr.cell (by omega)
  have h3 : w.cell? ⟨hb, 3, none⟩ = some (.int .i64 mk) := hr.cell (by omega)
  have hp1 := hp.1
  have hp2 := hp.2
  clear hr o1 o2 f1 f2 hp
  go_enter Tryz.func69, Tryz.ntmps69
  go_wp2
  go_loopw [3, 4] (fun b i wr => ∃ k : Nat, k ≤ nb ∧ b = .bool true ∧ i = .int .i64 k ∧ ∃ nq, wr = w.drewN nq) (fun _ i _ => nb - (intOf i).toNat)
  case atStart => exact ⟨0, Nat.zero_le _, rfl, rfl, 0, rfl⟩
  case round =>
    obtain ⟨k, hk, rfl, rfl, nq, rfl⟩ := hrel
    by_cases hlt : k < nb
    · obtain ⟨g, rfl, hc⟩ := v1 k hlt
      have ck : w.cell? ⟨g, k, none⟩ = some (.int .u8 (sg mk k)) := (hc k (by omega)).trans (signs_get hlt)
      have lk : (k : Int) < (nb : Int) := by omega
      clear v1 v2 v3 hc h4
      go_wp2
      go_quiet ((go_at_call 126; refine (sign_any _ _ _).mono ?_; rintro e w' ⟨rfl, rfl⟩; exact ⟨rfl, _, rfl⟩))
      go_wp2
      go_roundw
      case rel => exact ⟨k + 1, by omega, rfl, by go_num, _, rfl⟩
      case measure => simp [intOf]; omega
    · obtain rfl : k = nb := by omega
      clear v1
      go_wp2
      go_loopw [3, 5] (fun b i wr => ∃ k : Nat, k ≤ no ∧ b = .bool true ∧ i = .int .i64 k ∧ ∃ nq, wr = w.drewN nq) (fun _ i _ => no - (intOf i).toNat)
      case atStart => exact ⟨0, Nat.zero_le _, rfl, rfl, nq, rfl⟩
      case round =>
        obtain ⟨k, hk, rfl, rfl, nq, rfl⟩ := hrel
        by_cases hlt : k < no
        · obtain ⟨g, rfl, hc⟩ := v2 k hlt
          have ck0 : w.cell? ⟨g, k * 6, none⟩ = some (.int .i64 9) := (hc _ (by omega)).trans ((opms_get (by omega)).trans (by rw [show k * 6 % 6 = 0 by omega]; rfl))
          have ck1 : w.cell? ⟨g, k * 6 + 1, none⟩ = some (.int .u32 0) := (hc _ (by omega)).trans ((opms_get (by omega)).trans (by rw [show (k * 6 + 1) % 6 = 1 by omega]; rfl))
          have ck2 : w.cell? ⟨g, k * 6 + 2, none⟩ = some (.int .u32 0) := (hc _ (by omega)).trans ((opms_get (by omega)).trans (by rw [show (k * 6 + 2) % 6 = 2 by omega]; rfl))
          have ck3 : w.cell? ⟨g, k * 6 + 3, none⟩ = some (.int .u32 0) := (hc _ (by omega)).trans ((opms_get (by omega)).trans (by rw [show (k * 6 + 3) % 6 = 3 by omega]; rfl))
          have ck4 : w.cell? ⟨g, k * 6 + 4, none⟩ = some (.int .u64 mk) := (hc _ (by omega)).trans ((opms_get (by omega)).trans (by rw [show (k * 6 + 4) % 6 = 4 by omega]; rfl))
          have ck5 : w.cell? ⟨g, k * 6 + 5, none⟩ = some (.int .i32 0) := (hc _ (by omega)).trans ((opms_get (by omega)).trans (by rw [show (k * 6 + 5) % 6 = 5 by omega]; rfl))
          have lk : (k : Int) < (no : Int) := by omega
          clear v2 v3 hc h4
          go_wp2
          go_quiet (fail)
          go_wp2
          go_roundw
          case rel => exact ⟨k + 1, by omega, rfl, by go_num, _, rfl⟩
          case measure => simp [intOf]; omega
        · obtain rfl : k = no := by omega
          clear v2
          go_wp2_with (go_at_call 127; refine (listed_any _ _).mono ?_; rintro e w' ⟨rfl, rfl⟩)
          go_loopw [3, 7] (fun b i wr => ∃ k : Nat, k ≤ nl ∧ b = .bool true ∧ i = .int .i64 k ∧ ∃ nq, wr = (w.alloc (.cells (lst mk) 5)).drewN nq) (fun _ i _ => nl - (intOf i).toNat)
          case atStart => exact ⟨0, Nat.zero_le _, rfl, rfl, nq, rfl⟩
          case round =>
            obtain ⟨k, hk, rfl, rfl, nq, rfl⟩ := hrel
            have h2' : (w.alloc (.cells (lst mk) 5)).cell? ⟨hb, 2, none⟩ = some (.slice al nl cl) := (World.cell?_of_block (Below.heap_alloc _ _ _ (hF hb hFb))).trans h2
            by_cases hlt : k < nl
            · obtain ⟨g, rfl, hc⟩ := v3 k hlt
              obtain ⟨v, hv⟩ : ∃ v, ls[k]? = some v := ⟨ls[k]'(by rw [o3.1]; omega), List.getElem?_eq_getElem _⟩
              obtain ⟨gk, rfl, hgF, hgk⟩ := h4 v (List.mem_of_getElem? hv)
              have ck : w.cell? ⟨g, k, none⟩ = some (.slice (some ⟨gk, 0, none⟩) 3 3) := (hc k (by omega)).trans hv
              have hgl : g < w.heap.size := block_lt_of_cell ck
              have ck' : (w.alloc (.cells (lst mk) 5)).cell? ⟨g, k, none⟩ = some (.slice (some ⟨gk, 0, none⟩) 3 3) := (World.cell?_of_block (Below.heap_alloc _ _ _ hgl)).trans ck
              have cv1 := fun n => conv_lst mk gk ((w.alloc (.cells (lst mk) 5)).drewN n) ((Below.heap_alloc w _ _ (hF gk hgF)).trans hgk)
              have cv2 := fun n => conv_lst mk w.heap.size ((w.alloc (.cells (lst mk) 5)).drewN n) (heap_alloc_new w _)
              have lk : (k : Int) < (nl : Int) := by omega
              clear v3 hc h4 hv hgk o3 f3
              go_wp2
              go_quiet (fail)
              go_wp2
              go_roundw
              case rel => exact ⟨k + 1, by omega, rfl, by go_num, _, rfl⟩
              case measure => simp [intOf]; omega
            · obtain rfl : k = nl := by omega
              clear v3 h4 o3 f3
              go_wp2
              go_ret
              exact ⟨rfl, below_drewN ((Below.refl _ _).alloc (Nat.le_refl _) _) _⟩
end Go.Proofs.YtcjohccaigflgaaGreatDoor

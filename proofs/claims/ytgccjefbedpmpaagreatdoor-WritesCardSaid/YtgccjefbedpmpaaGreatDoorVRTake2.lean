import Derived.Test.YtgccjefbedpmpaaGreatDoorVBookM
namespace Go.Proofs.YtgccjefbedpmpaaGreatDoor
open Go.RowKit
set_option maxRecDepth 100000
set_option maxHeartbeats 8000000
def lenAt (W : World) (b : Nat) : Nat := match W.cell? ⟨b, 74, none⟩ with
 | some (.slice _ n _) => n
 | _ => 0
structure TkS (b : Nat) (cl ss : Int) (dn : Bool) (vK vL vW : Value) (R : List Opn × List Opn) (w wr : World) (i : Nat) (l v : Value) (os ws : List Opn) : Prop where
 is : RefIs wr b cl l v ss dn vK os ws
 book : BookOk os ws
 ahead : ∀ j (hj : j < ws.length), j < i → readyL os ws[j] = false
 takes : takeN ws.length os ws = R
 lieL : ∀ x, l.ownBlock = some x → vL.ownBlock = some x ∨ w.heap.size ≤ x
 lieW : ∀ x, v.ownBlock = some x → vW.ownBlock = some x ∨ w.heap.size ≤ x
 but : But (fun x => x = b) w wr
theorem TkS.p {b : Nat} {cl ss : Int} {dn : Bool} {vK vL vW : Value} {R : List Opn × List Opn} {w wr : World} {i : Nat} {l v : Value} {os ws : List Opn} (h : TkS b cl ss dn vK vL vW R w wr i l v os ws) (he : i = ws.length ∨ 120 ≤ os.length) : RefP b cl ss dn vK vL vW R w wr := by
 have := takeN_end h.ahead he
 rw [h.takes] at this
 rw [this]
 exact ⟨l, v, h.is, h.lieL, h.lieW, h.but⟩
theorem refTake_any (b : Nat) (cl : Int) (vL vW : Value) (ss : Int) (dn : Bool) (vK : Value) (os ws : List Opn) (o : Opn) (w : World) (H : RefIs w b cl vL vW ss dn vK os ws) (hb0 : ByKey os) (hw0 : ByKey ws) (hwt : ∀ x ∈ ws, KeyT x) (hwn : ws.length ≤ 1000) (hot : ∀ x ∈ os, KeyT x) (hon : os.length ≤ 1000) (ho : o.ok = true) (hB : BookOk (putK o os) (lessKey o.key ws)) :
  Calls Tryz.prog 139 #[.pointer (some ⟨b, 0, none⟩), .agg #[.int .i64 o.kd, .int .u32 o.cl, .int .u32 o.ck, .int .u32 o.st, .int .u64 o.rf, .int .i32 o.ch]] w fun e w' => e = .returned (.tuple #[]) ∧ RefP b cl ss dn vK vL vW (takeN (lessKey o.key ws).length (putK o os) (lessKey o.key ws)) w w' := by
 obtain ⟨aL, cL, rfl⟩ := ownK_form H.hL
 obtain ⟨aW, cW, rfl⟩ := ownO_form H.hW
 have hbl := H.row.lt
 have HK : Hid (KeyT o) := by have := ok_nums ho; exact ⟨by omega, by omega⟩
 have HOW := hid2 (And.intro (okOp_w ho (ok_rf ho)) (ok_kinds ho))
 have HOs := hid2 (And.intro hb0 (And.intro hot hon))
 have HWs := hid2 hwt
 have HWn := hid2 (show ws.length ≤ 1000000 by omega)
 have HWb := hid2 (And.intro hw0 hwn)
 have HBk := hid2 hB
 generalize hR : takeN (lessKey o.key ws).length (putK o os) (lessKey o.key ws) = R
 have HR := hid2 hR
 have HD := hid2 ((H.below (below1' w (.cells #[.int .i64 o.kd, .int .u32 o.cl, .int .u32 o.ck, .int .u32 o.st, .int .u64 o.rf, .int .i32 o.ch] 43))).below (Below.refl _ _).drew)
 have HS0 : Hid (RTS w.heap.size (w.alloc (.cells #[.int .i64 o.kd, .int .u32 o.cl, .int .u32 o.ck, .int .u32 o.st, .int .u64 o.rf, .int .i32 o.ch] 43)).drew b o) := ⟨⟨_, _, _, _, _, _, HD.out.row⟩, (BoxS.new w o).box⟩
 have HB0 : Hid (But (fun x => x = b) w (w.alloc (.cells #[.int .i64 o.kd, .int .u32 o.cl, .int .u32 o.ck, .int .u32 o.st, .int .u64 o.rf, .int .i32 o.ch] 43)).drew) := (But.below (below1' _ _)).trans (But.below (Below.refl _ _).drew)
 clear H hb0 hw0 hwt hwn hot hon ho hB hR
 go_enter Tryz.func139, Tryz.ntmps139
 go_wp2_with fail
 refine wp_region_held_drew (S := fun W => RTS w.heap.size W b o) (by kernel_rfl) HS0.out (fun hHeld => ?_)
 clear HS0
 generalize World.drew _ = wD at HD HB0 hHeld ⊢
 have HKw := hid2 (know_any _ os o wD HD.out.hL HOs.out.1 HOs.out.2.1 HOW.out.1 HOW.out.2 HOs.out.2.2)
 refine tk0 0 8 ?_
 refine tk0 1 9 ?_
 refine tk0 2 10 ?_
 refine tk0 3 11 ?_
 refine tk 4 12 rfl (yieldsIf_load_mid (by rfl) 80 (.tmp 11) rfl b 0 rfl (rowOf 72 fun j => .int .u32 (RV j)).toList _ (fun _ h => h.roots) Tryz.underlying80 rfl (by rw [Array.length_toList, rowOf_size]; exact info30)) hHeld ?_
 simp only [Act.put, ls1, ls2, ls3, Array.toArray_toList]
 refine tk0 5 13 ?_
 refine tk0 6 14 ?_
 refine tk0 7 15 ?_
 refine tkf 9 17 (fun _ h => boxCells h.box) ?_
 refine rd 8 (some 16) rfl (fun K hK => ?_)
 have c73 := HD.out.L
 go_simp
 refine hK.out _ _ hHeld fun hHeld => ?_
 clear hK K c73
 refine rd 10 (some 18) rfl (fun K hK => ?_)
 go_simp
 refine HKw.out.mono ?_
 rintro e w2 ⟨⟨v2, rfl, ho2⟩, hb2⟩
 have H2 := hid2 ((HD.out.below hb2).withL (v := v2) ho2)
 have hb2' := hid2 hb2
 have c2 := (HD.out.below hb2).L
 have f2 := (HD.out.below hb2).row.free 73
 obtain ⟨a2, k2, rfl⟩ := ownK_form ho2
 have HO2 := hid2 ho2
 refine hK.out _ _ (hHeld.kept hb2) (fun hHeld => ?_)
 clear hK K ho2 hb2
 refine tk0 11 19 ?_
 refine tk0 12 20 ?_
 refine rd 13 none rfl (fun K hK => ?_)
 go_simp
 refine hK.out _ _ (hHeld.put73 _) (fun hHeld => ?_)
 clear hK K c2 f2
 refine wdn ?_
 clear HKw
 have HX3 := hid2 hHeld.box
 have HB3 : Hid (But (fun x => x = b) w (w2.setCell ⟨b, 73, none⟩ (.slice a2 (putK o os).length k2)).drew) := ((HB0.out.trans (But.below hb2'.out)).trans (But.set b 73 _)).trans (But.below (Below.refl _ _).drew)
 have HL3 : Hid (∀ x, (Value.slice a2 (putK o os).length k2).ownBlock = some x → w.heap.size ≤ x) := fun x hx => Nat.le_trans HB0.out.size (World.ownsRow.lt HO2.out x hx).1
 have H3 := hid2 (H2.out.below (Below.refl _ _).drew)
 clear hHeld hb2' HO2 HD HB0 H2
 go_wp2_with fail
 refine wp_region_held_drew (S := fun W => RefIs W b cl (.slice a2 (putK o os).length k2) (.slice aW ws.length cW) ss dn vK (putK o os) ws ∧ RowIs W w.heap.size 43 6 (opV o)) (by kernel_rfl) ⟨H3.out, HX3.out⟩ (fun hHeld => ?_)
 clear HX3 H3
 generalize World.drew _ = wE at HB3 hHeld ⊢
 refine tk0 0 21 ?_
 refine tk0 1 22 ?_
 refine tk0 2 23 ?_
 refine tkf 3 24 (fun W h => h.1.W) ?_
 refine tkf 4 25 (fun _ h => boxCells h.2) ?_
 refine rd 5 (some 26) rfl (fun K hK => ?_)
 go_simp
 refine (keyG _ _ _ _ _ _ HK.out.1 HK.out.2 _).mono ?_
 rintro e w4 ⟨rfl, hb4⟩
 refine hK.out _ _ ⟨hHeld.1.below hb4, hHeld.2.below hb4 hHeld.2.lt⟩ (fun hHeld => ?_)
 have HB4 := hid2 (HB3.out.trans (But.below hb4))
 clear hK K hb4 HB3
 refine rd 6 (some 27) rfl (fun K hK => ?_)
 go_simp
 refine (find_any ws aW cW _ _ (OwnO.is hHeld.1.hW) HWs.out HWn.out).mono ?_
 rintro e w5 ⟨rfl, hb5⟩
 refine hK.out _ _ ⟨hHeld.1.below hb5, hHeld.2.below hb5 hHeld.2.lt⟩ (fun hHeld => ?_)
 have HB5 := hid2 (HB4.out.trans (But.below hb5))
 clear hK K hb5 HB4
 refine rdg 7 (some 4) ?_
 refine wdn ?_
 have H5 := hid2 hHeld.1
 clear hHeld
 go_upto_if 29 with fail
 go_cut [4, 29] (fun s4 s29 wx => Hid (∃ vW1, RefIs wx b cl (.slice a2 (putK o os).length k2) vW1 ss dn vK (putK o os) (lessKey o.key ws) ∧ (∀ x, vW1.ownBlock = some x → (Value.slice aW ws.length cW).ownBlock = some x ∨ w.heap.size ≤ x) ∧ But (fun x => x = b) w wx))
 case first =>
  rcases Int.lt_or_le (fIdx ws (o.cl * 1048576 + o.ck)) 0 with hfx | hfx
  ·go_wp2_with fail
   go_meet
   exact hid2 ⟨_, by rw [show lessKey o.key ws = ws from (lessKey_fIdx HWb.out.1).1 hfx]; exact H5.out, fun _ => Or.inl, HB5.out⟩
  ·obtain ⟨i, hix, -⟩ := fIdx_get hfx
   obtain ⟨hil, hie⟩ := (lessKey_fIdx HWb.out.1).2 i hix
   have HE := hid2 (show lessKey o.key ws = ws.eraseIdx i from hie)
   rw [hix]
   clear hix hfx hie
   have HOt := hid2 (out_any _ i ws w5 H5.out.hW hil HWb.out.2)
   have c74 := H5.out.W
   go_wp2_with (go_at_call 213; refine HOt.out.mono ?_; rintro e w6 ⟨⟨v6, rfl, ho6⟩, hb6⟩; have H6 := hid2 ((H5.out.below hb6).withW (v := v6) ho6); have HL6 : Hid (∀ x, v6.ownBlock = some x → w.heap.size ≤ x) := fun x hx => Nat.le_trans HB5.out.size (World.ownsRow.lt ho6 x hx).1; have HB6 := hid2 ((HB5.out.trans (But.below hb6)).trans (But.set b 74 v6)); have c6 := (H5.out.below hb6).W; have f6 := (H5.out.below hb6).row.free 74; obtain ⟨a6, d6, rfl⟩ := ownO_form ho6; clear ho6 hb6 c74)
   go_meet
   exact hid2 ⟨_, by rw [HE.out]; exact H6.out, fun x hx => Or.inr (HL6.out x hx), HB6.out⟩
 case rest =>
  obtain ⟨vW1, hr1, hl1, hb1⟩ := hcut.out
  have H1 : Hid (TkS b cl ss dn vK (.slice aL os.length cL) (.slice aW ws.length cW) R w wc 0 (.slice a2 (putK o os).length k2) vW1 (putK o os) (lessKey o.key ws)) := ⟨hr1, HBk.out, fun j hj h => absurd h (Nat.not_lt_zero _), HR.out, fun x hx => Or.inr (HL3.out x hx), hl1, hb1⟩
  clear H5 HB5 hcut hr1 hl1 hb1 HBk HR HL3 HWs HWn HWb HOs HOW HK
  go_wp2_with fail
  go_loopw [5] (fun iv wr => ∃ (i : Nat) (l v : Value) (os' ws' : List Opn), iv = .int .i64 i ∧ i ≤ ws'.length ∧ Hid (TkS b cl ss dn vK (.slice aL os.length cL) (.slice aW ws.length cW) R w wr i l v os' ws')) (fun iv wr => lenAt wr b * 100 + (lenAt wr b - (intOf iv).toNat))
  case atStart => exact ⟨0, _, _, _, _, rfl, Nat.zero_le _, H1⟩
  case round =>
   clear H1
   obtain ⟨i, l, v, os', ws', rfl, hil, HT⟩ := hrel
   have hbk := HT.out.book
   have hws := hbk.len
   have hos := hbk.set.len
   clear hbk
   obtain ⟨al, dl, rfl⟩ := ownK_form HT.out.is.hL
   obtain ⟨av, dv, rfl⟩ := ownO_form HT.out.is.hW
   have c73 := HT.out.is.L
   have c74 := HT.out.is.W
   have hla : lenAt wr b = ws'.length := by unfold lenAt; rw [c74]
   rw [hla]
   by_cases hlt : i < ws'.length
   ·have li : (i : Int) < (ws'.length : Int) := by omega
    by_cases hfull : 120 ≤ os'.length
    ·go_wp2_with fail
     go_end0
     exact ⟨rfl, HT.out.p (Or.inr hfull)⟩
    ·have lf : (os'.length : Int) < 120 := by omega
     rcases HT.out.is.hW.2 with ⟨e, e1⟩ | ⟨g, cap, cur, e, _⟩
     ·omega
     cases e
     have hcs := (OwnO.at0 HT.out.is.hW).cells hlt
     simp only [Nat.zero_add] at hcs
     obtain ⟨k0, k1, k2', k3, k4, k5⟩ := hcs
     have HOk := hid2 (HT.out.book.ok _ (List.getElem_mem hlt))
     have HRy := hid2 (refReady_any b cl _ _ ss dn vK os' ws' ws'[i] wr HT.out.is HT.out.book.set HOk.out)
     cases hry : readyL os' ws'[i] with
     | false =>
      rw [hry] at HRy
      go_wp2_with (go_at_call 138; refine HRy.out.mono ?_; rintro e w7 ⟨rfl, hb7⟩)
      have H7 : Hid (TkS b cl ss dn vK (.slice aL os.length cL) (.slice aW ws.length cW) R w w7 (i + 1) (.slice al os'.length dl) (.slice (some ⟨g, 0, none⟩) ws'.length dv) os' ws') := ⟨HT.out.is.below hb7, HT.out.book, fun j hj h => (by
       rcases Nat.lt_or_ge j i with q | q
       ·exact HT.out.ahead j hj q
       ·have : j = i := by omega
        subst this
        exact hry), HT.out.takes, HT.out.lieL, HT.out.lieW, HT.out.but.trans (But.below hb7)⟩
      go_roundw
      case rel => exact ⟨i + 1, _, _, _, _, by go_num, hlt, H7⟩
      case measure =>
       have : lenAt w7 b = ws'.length := by unfold lenAt; rw [H7.out.is.W]
       simp [intOf, this]
       omega
     | true =>
      rw [hry] at HRy
      have HNx := hid2 (takeN_hit hfull hlt HT.out.ahead hry)
      have HBn : Hid (BookOk (putK ws'[i] os') (ws'.eraseIdx i)) := by
       have := HT.out.book.next hfull (List.findIdx?_eq_some_iff_getElem.2 ⟨hlt, hry, fun j hj => by rw [HT.out.ahead j (by omega) hj]; simp⟩)
       rwa [List.getElem?_eq_getElem hlt] at this
      clear hry
      go_wp2_with (first
       | (go_at_call 138; refine HRy.out.mono ?_; rintro e w7 ⟨rfl, hb7⟩; have H7 := hid2 (HT.out.is.below hb7); have HB7 := hid2 (HT.out.but.trans (But.below hb7)); have c74 := H7.out.W; have hcs := (OwnO.at0 H7.out.hW).cells hlt; simp only [Nat.zero_add] at hcs; obtain ⟨k0, k1, k2', k3, k4, k5⟩ := hcs; have R7 : RowIs (w7.alloc (.cells #[.int .i64 0, .int .u32 0, .int .u32 0, .int .u32 0, .int .u64 0, .int .i32 0] 43)) w7.heap.size 43 6 (opV o0) := RowIs.last (n := 6) (f := opV o0) (cs := #[.int .i64 0, .int .u32 0, .int .u32 0, .int .u32 0, .int .u64 0, .int .i32 0]) rfl rfl; clear hb7 HRy)
       | (refine wpList_store_row rfl 43 (.tmp 7) (.tmp 72) rfl w7.heap.size (rowOf 6 (opV ws'[i])) rfl rfl _ _ R7 (by rw [rowOf_size]; exact infoOp6) (by rw [rowOf_size, rowOf_size]) (opV_one _) ?_; have R8 := hid2 (R7.setRow (opV ws'[i])); have HB8' : Below w7.heap.size w7 ((w7.alloc (.cells #[.int .i64 0, .int .u32 0, .int .u32 0, .int .u32 0, .int .u64 0, .int .i32 0] 43)).setRow w7.heap.size (rowOf 6 (opV ws'[i]))) := below_setRow' (below1' _ _) (Nat.le_refl _) _; have H8 := hid2 (H7.out.below HB8'); have HB8 := hid2 (HB7.out.trans (But.below HB8')); have HX8 := hid2 (Nat.le_trans HB7.out.size (Nat.le_refl w7.heap.size)); clear R7 HB8' H7 HB7 k0 k1 k2' k3 k4 k5 c74; generalize World.setRow _ _ _ = w8 at R8 H8 HB8 ⊢; have c74 := H8.out.W; have HOt := hid2 (out_any _ i ws' w8 H8.out.hW hlt (by omega)))
       | (go_at_call 213; refine HOt.out.mono ?_; rintro e w9 ⟨⟨v9, rfl, ho9⟩, hb9⟩; have H9 := hid2 ((H8.out.below hb9).withW (v := v9) ho9); have HL9 : Hid (∀ x, v9.ownBlock = some x → w.heap.size ≤ x) := fun x hx => Nat.le_trans HB8.out.size (World.ownsRow.lt ho9 x hx).1; have HB9 := hid2 ((HB8.out.trans (But.below hb9)).trans (But.set b 74 v9)); have R9 : Hid (RowIs (w9.setCell ⟨b, 74, none⟩ v9) w7.heap.size 43 6 (opV ws'[i])) := (R8.out.below hb9 R8.out.lt).setOther (a := ⟨b, 74, none⟩) (fun e => absurd (RowIs.type_eq (H8.out.below hb9).row ((show b = w7.heap.size from e) ▸ R8.out.below hb9 R8.out.lt)) (by decide)) _; have c9 := (H8.out.below hb9).W; have f9 := (H8.out.below hb9).row.free 74; obtain ⟨a9, d9, rfl⟩ := ownO_form ho9; clear ho9 hb9 c74 H8 HB8 R8 HOt))
      clear c73 c9 f9
      have HD := hid2 (H9.out.below (Below.refl _ _).drew)
      have HB0 := hid2 (HB9.out.trans (But.below (Below.refl _ _).drew))
      have HS0 : Hid (RTS w7.heap.size (w9.setCell ⟨b, 74, none⟩ (.slice a9 (ws'.eraseIdx i).length d9)).drew b ws'[i]) := ⟨⟨_, _, _, _, _, _, HD.out.row⟩, R9.out.drew⟩
      refine wp_region_held_drew (S := fun W => RTS w7.heap.size W b ws'[i]) (by kernel_rfl) HS0.out (fun hHeld => ?_)
      clear HS0 H9 HB9 R9
      generalize World.drew _ = wD at HD HB0 hHeld ⊢
      have HKw := hid2 (know_any _ os' ws'[i] wD HD.out.hL HT.out.book.set.by' HT.out.book.set.keyT (okOp_w HOk.out (ok_rf HOk.out)) (ok_kinds HOk.out) (by omega))
      refine tk0 0 82 ?_
      refine tk0 1 83 ?_
      refine tk0 2 84 ?_
      refine tk0 3 85 ?_
      refine tk 4 86 rfl (yieldsIf_load_mid (by rfl) 80 (.tmp 85) rfl b 0 rfl (rowOf 72 fun j => .int .u32 (RV j)).toList _ (fun _ h => h.roots) Tryz.underlying80 rfl (by rw [Array.length_toList, rowOf_size]; exact info30)) hHeld ?_
      simp only [Act.put, ls1, ls2, ls3, Array.toArray_toList]
      refine tk0 5 87 ?_
      refine tk0 6 88 ?_
      refine tk0 7 89 ?_
      refine tkf 9 91 (fun _ h => boxCells h.box) ?_
      refine rd 8 (some 90) rfl (fun K hK => ?_)
      have c73 := HD.out.L
      go_simp
      refine hK.out _ _ hHeld fun hHeld => ?_
      clear hK K c73
      refine rd 10 (some 92) rfl (fun K hK => ?_)
      go_simp
      refine HKw.out.mono ?_
      rintro e w2 ⟨⟨v2, rfl, ho2⟩, hb2⟩
      have H2 := hid2 ((HD.out.below hb2).withL (v := v2) ho2)
      have hb2' := hid2 hb2
      have c2 := (HD.out.below hb2).L
      have f2 := (HD.out.below hb2).row.free 73
      obtain ⟨a2, k2, rfl⟩ := ownK_form ho2
      have HO2 := hid2 ho2
      refine hK.out _ _ (hHeld.kept hb2) (fun hHeld => ?_)
      clear hK K ho2 hb2
      refine tk0 11 93 ?_
      refine tk0 12 94 ?_
      refine rd 13 none rfl (fun K hK => ?_)
      go_simp
      refine hK.out _ _ (hHeld.put73 _) (fun hHeld => ?_)
      clear hK K c2 f2
      refine wdn ?_
      clear HKw
      have HBe := hid2 ((HB0.out.trans (But.below hb2'.out)).trans (But.set b 73 (.slice a2 (putK ws'[i] os').length k2)))
      have HLe : Hid (∀ x, (Value.slice a2 (putK ws'[i] os').length k2).ownBlock = some x → w.heap.size ≤ x) := fun x hx => Nat.le_trans HB0.out.size (World.ownsRow.lt HO2.out x hx).1
      have HE : Hid (TkS b cl ss dn vK (.slice aL os.length cL) (.slice aW ws.length cW) R w (w2.setCell ⟨b, 73, none⟩ (.slice a2 (putK ws'[i] os').length k2)) 0 (.slice a2 (putK ws'[i] os').length k2) (.slice a9 (ws'.eraseIdx i).length d9) (putK ws'[i] os') (ws'.eraseIdx i)) := ⟨H2.out, HBn.out, fun j hj h => absurd h (Nat.not_lt_zero _), HNx.out ▸ HT.out.takes, fun x hx => Or.inr (HLe.out x hx), fun x hx => Or.inr (HL9.out x hx), HBe.out⟩
      clear hHeld H2 HBe HLe HD HB0
      go_wp2_with fail
      go_roundw
      case rel => exact ⟨0, _, _, _, _, rfl, Nat.zero_le _, HE⟩
      case measure =>
       have h1 : lenAt (w2.setCell ⟨b, 73, none⟩ (.slice a2 (putK ws'[i] os').length k2)) b = (ws'.eraseIdx i).length := by unfold lenAt; rw [HE.out.is.W]
       have h2 : (ws'.eraseIdx i).length = ws'.length - 1 := List.length_eraseIdx_of_lt hlt
       simp [intOf, h1, h2]
       omega
   ·obtain rfl : i = ws'.length := by omega
    go_wp2_with fail
    go_end0
    exact ⟨rfl, HT.out.p (Or.inl rfl)⟩
theorem RefP.put {w w8 w9 : World} {b : Nat} {cl : Int} {vL vW : Value} {ss : Int} {dn : Bool} {vK : Value} {R : List Opn × List Opn} (hb : Below w.heap.size w w8) (h : RefP b cl ss dn vK vL vW R w8 w9) {g n : Nat} {f : Nat → Value} (hr : RowIs w9 g 43 n f) (hg : w.heap.size ≤ g) (hg2 : g < w8.heap.size) (hvL : ∀ x, vL.ownBlock = some x → x < w.heap.size) (hvW : ∀ x, vW.ownBlock = some x → x < w.heap.size) (cs : Array Value) : RefP b cl ss dn vK vL vW R w (w9.setRow g cs) := by
 obtain ⟨l, v, h1, h2, h3, h4⟩ := h
 refine ⟨l, v, ⟨h1.row.setRowOther (fun e => absurd (RowIs.type_eq h1.row (e ▸ hr)) (by decide)) _, own_frame h1.hL fun x hx => setRow_other _ _ _ _ (fun e => ?_), own_frame h1.hW fun x hx => setRow_other _ _ _ _ (fun e => ?_)⟩, fun x e => (h2 x e).via id fun k => Nat.le_trans hb.size k, fun x e => (h3 x e).via id fun k => Nat.le_trans hb.size k, ((But.below hb).trans h4).putRow hg _⟩
 ·rcases h2 x hx with q | q
  ·have := hvL x q; omega
  ·omega
 ·rcases h3 x hx with q | q
  ·have := hvW x q; omega
  ·omega
def RefW (b : Nat) (cl ss : Int) (dn : Bool) (vK vL vW : Value) (M : Opn × Int × (List Opn × List Opn)) (w : World) (e : Ending) (w' : World) : Prop := e = .returned (.tuple #[.agg #[.int .i64 M.1.kd, .int .u32 M.1.cl, .int .u32 M.1.ck, .int .u32 M.1.st, .int .u64 M.1.rf, .int .i32 M.1.ch], .int .i64 M.2.1]) ∧ RefP b cl ss dn vK vL vW M.2.2 w w'
theorem lastS_top : ∀ (os : List Opn) (m : Int), lastS os m = m ∨ ∃ o ∈ os, o.st = lastS os m
 | [], _ => Or.inl rfl
 | o :: os, m => by
  rw [lastS]
  rcases lastS_top os (max m o.st) with e | ⟨x, hx, e⟩
  ·rcases Int.le_total m o.st with q | q
   ·exact Or.inr ⟨o, List.mem_cons_self .., by omega⟩
   ·exact Or.inl (by omega)
  ·exact Or.inr ⟨x, List.mem_cons_of_mem _ hx, e⟩
theorem refOwn_any (b : Nat) (cl : Int) (vL vW : Value) (ss : Int) (dn : Bool) (vK : Value) (os ws : List Opn) (kd rf ch : Int) (w : World) (H : RefIs w b cl vL vW ss dn vK os ws) (hB : BookOk os ws) (hcl : 1 ≤ cl ∧ cl ≤ 1048575) (hO : OwnRf os ⟨kd, 0, 0, 0, rf, ch⟩) :
  Calls Tryz.prog 134 #[.pointer (some ⟨b, 0, none⟩), .int .i64 kd, .int .u64 rf, .int .i32 ch] w fun e w' => RefW b cl ss dn vK vL vW (writeN cl os ws ⟨kd, 0, 0, 0, rf, ch⟩) w e w' := by
 obtain ⟨aL, cL, rfl⟩ := ownK_form H.hL
 obtain ⟨aW, cW, rfl⟩ := ownO_form H.hW
 have hbl := H.row.lt
 have hn := hB.set.len
 have HRf := hid2 H
 have HBk := hid2 hB
 have HO := hid2 hO
 have HVL : Hid (∀ x, (Value.slice aL os.length cL).ownBlock = some x → x < w.heap.size) := fun x hx => (World.ownsRow.lt H.hL x hx).2
 have HVW : Hid (∀ x, (Value.slice aW ws.length cW).ownBlock = some x → x < w.heap.size) := fun x hx => (World.ownsRow.lt H.hW x hx).2
 have h1 := lastC_spec cl os 0
 have h2 := lastS_spec os 0
 have hC1 : lastC cl os 0 ≤ 1048575 := by
  rcases h1.2.2 with e | ⟨o, ho, -, e⟩
  ·omega
  ·have := (ok_nums (hB.set.ok o ho)).2.1; omega
 have hS1 : lastS os 0 ≤ 1073741823 := by
  rcases lastS_top os 0 with e | ⟨o, ho, e⟩
  ·omega
  ·have := (ok_nums (hB.set.ok o ho)).2.2.1; omega
 have hC0 := h1.1
 have hS0 := h2.1
 generalize hRC : lastC cl os 0 = C at *
 generalize hRS : lastS os 0 = S at *
 have HR : Hid (lastC cl os 0 = C ∧ lastS os 0 = S) := ⟨hRC, hRS⟩
 have H0 : Hid (BoxS w (w.alloc (.cells #[.int .i64 0, .int .u32 0, .int .u32 0, .int .u32 0, .int .u64 0, .int .i32 0] 43)) o0) := BoxS.new w o0
 clear H hB hO h1 h2 hRC hRS
 go_enter Tryz.func134, Tryz.ntmps134
 go_wp2_with fail
 go_loopw [10, 11, 12] (fun cv sv iv wr => ∃ (i : Nat) (mc ms : Int), i ≤ os.length ∧ cv = .int .u32 mc ∧ sv = .int .u32 ms ∧ iv = .int .i64 i ∧ Hid (lastC cl (os.drop i) mc = C ∧ lastS (os.drop i) ms = S) ∧ Hid (BoxS w wr o0)) (fun _ _ iv _ => os.length - (intOf iv).toNat)
 case atStart => exact ⟨0, 0, 0, Nat.zero_le _, rfl, rfl, rfl, HR, H0⟩
 case round =>
  obtain ⟨i, mc, ms, hi, rfl, rfl, rfl, HQ0, HB⟩ := hrel
  clear H0
  have c73 := (HRf.out.below HB.out.below).L
  by_cases hlt : i < os.length
  ·have li : (i : Int) < (os.length : Int) := by omega
   have HKn := hid2 (OwnK.is (HRf.out.below HB.out.below).hL)
   rcases HRf.out.hL.2 with ⟨e, e1⟩ | ⟨g, cap, cur, e, _⟩
   ·omega
   cases e
   have hcs := ((OwnK.at0 HRf.out.hL).below HB.out.below).cells hlt
   simp only [Nat.zero_add] at hcs
   obtain ⟨k0, k1, k2, k3, k4, k5⟩ := hcs
   have hq1 := HQ0.out.1
   have hq2 := HQ0.out.2
   rw [lastC_drop cl os hlt] at hq1
   rw [lastS_drop os hlt] at hq2
   have HS := hid2 hq2
   have R7 : RowIs (wr.alloc (.cells #[.int .i64 0, .int .u32 0, .int .u32 0, .int .u32 0, .int .u64 0, .int .i32 0] 43)) wr.heap.size 43 6 (opV o0) := RowIs.last (n := 6) (f := opV o0) (cs := #[.int .i64 0, .int .u32 0, .int .u32 0, .int .u32 0, .int .u64 0, .int .i32 0]) rfl rfl
   have hbx := HB.out.box.lt
   clear hq2 HQ0
   go_wp2_with (refine wpList_store_row rfl 43 (.tmp 13) (.tmp 31) rfl wr.heap.size (rowOf 6 (opV os[i])) rfl rfl _ _ R7 (by rw [rowOf_size]; exact infoOp6) (by rw [rowOf_size, rowOf_size]) (opV_one _) ?_; have R8 := hid2 (R7.setRow (opV os[i])); have HB8 := hid2 (HB.out.kept (below_setRow' (below1' wr (.cells #[.int .i64 0, .int .u32 0, .int .u32 0, .int .u32 0, .int .u64 0, .int .i32 0] 43)) (Nat.le_refl _) (rowOf 6 (opV os[i])))); clear R7; generalize World.setRow _ _ _ = w8 at R8 HB8 ⊢)
   clear k0 k1 k2 k3 k4 k5 c73
   refine wp_region_held_drew (S := fun W => BoxS w W o0 ∧ RowIs W wr.heap.size 43 6 (opV os[i])) (by kernel_rfl) ⟨HB8.out.kept (Below.refl _ _).drew, R8.out.drew⟩ (fun hHeld => ?_)
   clear R8 HB8
   generalize World.drew _ = wD at hHeld ⊢
   by_cases hc : os[i].cl = cl
   ·have hc' : (os[i].cl == cl) = true := by simpa using hc
    rw [if_pos hc] at hq1
    rcases Int.lt_or_le mc os[i].ck with hmc | hmc
    ·have HC : Hid (lastC cl (os.drop (i + 1)) os[i].ck = C) := by rw [show max mc os[i].ck = os[i].ck by omega] at hq1; exact hq1
     clear hq1 hc
     refine wF (fun _ h => aI (boxCells h.2) ((HRf.out.below h.1.below).cl')) fun x1 => ?_
     refine tkx 0 32 x1 ?_
     refine tkx 1 33 x1 ?_
     refine tkx 2 34 x1 ?_
     refine tkx 3 35 x1 ?_
     refine tkx 4 36 x1 ?_
     refine tkx 5 37 x1 ?_
     refine tkx 6 38 x1 ?_
     refine tkx 7 39 x1 ?_
     refine tkx 8 40 x1 ?_
     refine tkx 9 41 x1 ?_
     refine tkx 10 42 x1 ?_
     refine tkx 11 43 x1 ?_
     refine tkx 12 44 x1 ?_
     refine wdn ?_
     obtain ⟨q0, q1, q2, q3, q4, q5⟩ := boxCells hHeld.2
     rcases Int.lt_or_le ms os[i].st with hms | hms
     ·have HQ : Hid (lastC cl (os.drop (i + 1)) os[i].ck = C ∧ lastS (os.drop (i + 1)) os[i].st = S) := ⟨HC.out, by have h := HS.out; rw [show max ms os[i].st = os[i].st by omega] at h; exact h⟩
      go_wp2_with fail
      go_roundw
      case rel => exact ⟨i + 1, _, _, hlt, rfl, rfl, by go_num, HQ, hid2 hHeld.1⟩
      case measure => simp [intOf]; omega
     ·have HQ : Hid (lastC cl (os.drop (i + 1)) os[i].ck = C ∧ lastS (os.drop (i + 1)) ms = S) := ⟨HC.out, by have h := HS.out; rw [show max ms os[i].st = ms by omega] at h; exact h⟩
      go_wp2_with fail
      go_roundw
      case rel => exact ⟨i + 1, _, _, hlt, rfl, rfl, by go_num, HQ, hid2 hHeld.1⟩
      case measure => simp [intOf]; omega
    ·have HC : Hid (lastC cl (os.drop (i + 1)) mc = C) := by rw [show max mc os[i].ck = mc by omega] at hq1; exact hq1
     clear hq1 hc
     refine wF (fun _ h => aI (boxCells h.2) ((HRf.out.below h.1.below).cl')) fun x1 => ?_
     refine tkx 0 32 x1 ?_
     refine tkx 1 33 x1 ?_
     refine tkx 2 34 x1 ?_
     refine tkx 3 35 x1 ?_
     refine tkx 4 36 x1 ?_
     refine tkx 5 37 x1 ?_
     refine tkx 6 38 x1 ?_
     refine tkx 7 39 x1 ?_
     refine tkx 8 40 x1 ?_
     refine tkx 9 41 x1 ?_
     refine tkx 10 42 x1 ?_
     refine tkx 11 43 x1 ?_
     refine tkx 12 44 x1 ?_
     refine wdn ?_
     obtain ⟨q0, q1, q2, q3, q4, q5⟩ := boxCells hHeld.2
     rcases Int.lt_or_le ms os[i].st with hms | hms
     ·have HQ : Hid (lastC cl (os.drop (i + 1)) mc = C ∧ lastS (os.drop (i + 1)) os[i].st = S) := ⟨HC.out, by have h := HS.out; rw [show max ms os[i].st = os[i].st by omega] at h; exact h⟩
      go_wp2_with fail
      go_roundw
      case rel => exact ⟨i + 1, _, _, hlt, rfl, rfl, by go_num, HQ, hid2 hHeld.1⟩
      case measure => simp [intOf]; omega
     ·have HQ : Hid (lastC cl (os.drop (i + 1)) mc = C ∧ lastS (os.drop (i + 1)) ms = S) := ⟨HC.out, by have h := HS.out; rw [show max ms os[i].st = ms by omega] at h; exact h⟩
      go_wp2_with fail
      go_roundw
      case rel => exact ⟨i + 1, _, _, hlt, rfl, rfl, by go_num, HQ, hid2 hHeld.1⟩
      case measure => simp [intOf]; omega
   ·have hc' : (os[i].cl == cl) = false := by simpa using hc
    rw [if_neg hc] at hq1
    have HC := hid2 hq1
    clear hq1 hc
    refine wF (fun _ h => aI (boxCells h.2) ((HRf.out.below h.1.below).cl')) fun x1 => ?_
    refine tkx 0 32 x1 ?_
    refine tkx 1 33 x1 ?_
    refine tkx 2 34 x1 ?_
    refine tkx 3 35 x1 ?_
    refine tkx 4 36 x1 ?_
    refine tkx 5 37 x1 ?_
    refine tkx 6 38 x1 ?_
    refine tkx 7 39 x1 ?_
    refine tku 8 40 ?_
    refine tku 9 41 ?_
    refine tku 10 42 ?_
    refine tku 11 43 ?_
    refine tkx 12 44 x1 ?_
    refine wdn ?_
    obtain ⟨q0, q1, q2, q3, q4, q5⟩ := boxCells hHeld.2
    rcases Int.lt_or_le ms os[i].st with hms | hms
    ·have HQ : Hid (lastC cl (os.drop (i + 1)) mc = C ∧ lastS (os.drop (i + 1)) os[i].st = S) := ⟨HC.out, by have h := HS.out; rw [show max ms os[i].st = os[i].st by omega] at h; exact h⟩
     go_wp2_with fail
     go_roundw
     case rel => exact ⟨i + 1, _, _, hlt, rfl, rfl, by go_num, HQ, hid2 hHeld.1⟩
     case measure => simp [intOf]; omega
    ·have HQ : Hid (lastC cl (os.drop (i + 1)) mc = C ∧ lastS (os.drop (i + 1)) ms = S) := ⟨HC.out, by have h := HS.out; rw [show max ms os[i].st = ms by omega] at h; exact h⟩
     go_wp2_with fail
     go_roundw
     case rel => exact ⟨i + 1, _, _, hlt, rfl, rfl, by go_num, HQ, hid2 hHeld.1⟩
     case measure => simp [intOf]; omega
  ·obtain rfl : i = os.length := by omega
   obtain ⟨rfl, rfl⟩ : mc = C ∧ ms = S := by have h := HQ0.out; rw [List.drop_length] at h; exact h
   by_cases hfu : 120 ≤ os.length ∨ mc = 1048575 ∨ ms = 1073741823
   ·have HW : Hid (writeN cl os ws ⟨kd, 0, 0, 0, rf, ch⟩ = (o0, 7, (os, ws))) := by
     have : roomL cl os = true := by
      unfold roomL
      rw [HR.out.1, HR.out.2]
      simp only [Bool.or_eq_true, decide_eq_true_eq]
      omega
     show _ = _
     unfold writeN
     rw [this]
     rfl
    have R8 := HB.out.box
    have hbx := R8.lt
    have HP : Hid (∀ cs, RefP b cl ss dn vK (.slice aL os.length cL) (.slice aW ws.length cW) (os, ws) w (wr.setRow w.heap.size cs)) := fun cs => RefP.put HB.out.below (RefP.refl (HRf.out.below HB.out.below)) R8 (Nat.le_refl _) hbx HVL.out HVW.out cs
    rcases hfu with hf | hf | hf
    ·go_wp2_with (refine wpList_store_row rfl 43 (.tmp 8) (.tmp 67) rfl w.heap.size (rowOf 6 (opV o0)) rfl rfl _ _ R8 (by rw [rowOf_size]; exact infoOp6) rfl (opV_one _) ?_)
     exact bodyPost_ret (results_cell_tmp Tryz.results134 _ _ w.heap.size 43 _ (0, 0) _ _ rfl rfl (R8.setRow (opV o0)) Tryz.underlying43 rfl (by rw [rowOf_size]; exact infoOp6)) rfl (by rw [HW.out]; exact ⟨rfl, HP.out _⟩)
    ·subst hf
     by_cases hf2 : 120 ≤ os.length
     ·go_wp2_with (refine wpList_store_row rfl 43 (.tmp 8) (.tmp 67) rfl w.heap.size (rowOf 6 (opV o0)) rfl rfl _ _ R8 (by rw [rowOf_size]; exact infoOp6) rfl (opV_one _) ?_)
      exact bodyPost_ret (results_cell_tmp Tryz.results134 _ _ w.heap.size 43 _ (0, 0) _ _ rfl rfl (R8.setRow (opV o0)) Tryz.underlying43 rfl (by rw [rowOf_size]; exact infoOp6)) rfl (by rw [HW.out]; exact ⟨rfl, HP.out _⟩)
     ·go_wp2_with (refine wpList_store_row rfl 43 (.tmp 8) (.tmp 67) rfl w.heap.size (rowOf 6 (opV o0)) rfl rfl _ _ R8 (by rw [rowOf_size]; exact infoOp6) rfl (opV_one _) ?_)
      exact bodyPost_ret (results_cell_tmp Tryz.results134 _ _ w.heap.size 43 _ (0, 0) _ _ rfl rfl (R8.setRow (opV o0)) Tryz.underlying43 rfl (by rw [rowOf_size]; exact infoOp6)) rfl (by rw [HW.out]; exact ⟨rfl, HP.out _⟩)
    ·subst hf
     by_cases hf2 : 120 ≤ os.length
     ·go_wp2_with (refine wpList_store_row rfl 43 (.tmp 8) (.tmp 67) rfl w.heap.size (rowOf 6 (opV o0)) rfl rfl _ _ R8 (by rw [rowOf_size]; exact infoOp6) rfl (opV_one _) ?_)
      exact bodyPost_ret (results_cell_tmp Tryz.results134 _ _ w.heap.size 43 _ (0, 0) _ _ rfl rfl (R8.setRow (opV o0)) Tryz.underlying43 rfl (by rw [rowOf_size]; exact infoOp6)) rfl (by rw [HW.out]; exact ⟨rfl, HP.out _⟩)
     ·by_cases hf3 : mc = 1048575
      ·subst hf3
       go_wp2_with (refine wpList_store_row rfl 43 (.tmp 8) (.tmp 67) rfl w.heap.size (rowOf 6 (opV o0)) rfl rfl _ _ R8 (by rw [rowOf_size]; exact infoOp6) rfl (opV_one _) ?_)
       exact bodyPost_ret (results_cell_tmp Tryz.results134 _ _ w.heap.size 43 _ (0, 0) _ _ rfl rfl (R8.setRow (opV o0)) Tryz.underlying43 rfl (by rw [rowOf_size]; exact infoOp6)) rfl (by rw [HW.out]; exact ⟨rfl, HP.out _⟩)
      ·have hm1 : (mc == 1048575) = false := by simp only [beq_eq_false_iff_ne]; omega
       go_wp2_with (refine wpList_store_row rfl 43 (.tmp 8) (.tmp 67) rfl w.heap.size (rowOf 6 (opV o0)) rfl rfl _ _ R8 (by rw [rowOf_size]; exact infoOp6) rfl (opV_one _) ?_)
       exact bodyPost_ret (results_cell_tmp Tryz.results134 _ _ w.heap.size 43 _ (0, 0) _ _ rfl rfl (R8.setRow (opV o0)) Tryz.underlying43 rfl (by rw [rowOf_size]; exact infoOp6)) rfl (by rw [HW.out]; exact ⟨rfl, HP.out _⟩)
   ·have hf1 : ¬ 120 ≤ os.length := fun e => hfu (Or.inl e)
    have hf2 : mc < 1048575 := by have : mc ≠ 1048575 := fun e => hfu (Or.inr (Or.inl e)); omega
    have hf3 : ms < 1073741823 := by have : ms ≠ 1073741823 := fun e => hfu (Or.inr (Or.inr e)); omega
    have hroom : roomL cl os = false := by
     unfold roomL
     rw [HR.out.1, HR.out.2]
     simp only [Bool.or_eq_false_iff, decide_eq_false_iff_not]
     omega
    have eo : ownL cl os ⟨kd, 0, 0, 0, rf, ch⟩ = ⟨kd, cl, mc + 1, ms + 1, rf, ch⟩ := by unfold ownL; rw [HR.out.1, HR.out.2]
    obtain ⟨o, ho⟩ : ∃ o : Opn, o = ⟨kd, cl, mc + 1, ms + 1, rf, ch⟩ := ⟨_, rfl⟩
    rw [← ho] at eo
    have HW : Hid (writeN cl os ws ⟨kd, 0, 0, 0, rf, ch⟩ = (o, 0, takeN (lessKey o.key ws).length (putK o os) (lessKey o.key ws))) := by
     show _ = _
     unfold writeN
     rw [hroom, eo]
     rfl
    have HOk : Hid (o.ok = true) := by rw [← eo]; exact own_ok HBk.out.set hcl hroom HO.out.1 HO.out.2
    have HBo : Hid (BookOk (putK o os) (lessKey o.key ws)) := by rw [← eo]; exact own_put HBk.out hcl hroom HO.out
    have e0 : o.kd = kd ∧ o.cl = cl ∧ o.ck = mc + 1 ∧ o.st = ms + 1 ∧ o.rf = rf ∧ o.ch = ch := by rw [ho]; exact ⟨rfl, rfl, rfl, rfl, rfl, rfl⟩
    have hm1 : (mc == 1048575) = false := by simp only [beq_eq_false_iff_ne]; omega
    have hm2 : (ms == 1073741823) = false := by simp only [beq_eq_false_iff_ne]; omega
    have c72 := (HRf.out.below HB.out.below).cl'
    have R7 : RowIs (wr.alloc (.cells #[.int .i64 0, .int .u32 0, .int .u32 0, .int .u32 0, .int .u64 0, .int .i32 0] 43)) wr.heap.size 43 6 (opV o0) := RowIs.last (n := 6) (f := opV o0) (cs := #[.int .i64 0, .int .u32 0, .int .u32 0, .int .u32 0, .int .u64 0, .int .i32 0]) rfl rfl
    have hbx := HB.out.box.lt
    generalize hRR : takeN (lessKey o.key ws).length (putK o os) (lessKey o.key ws) = R at *
    have HRR := hid2 hRR
    have HE := hid2 e0
    clear eo ho hroom hfu hRR e0
    go_wp2_with (first
     | (refine wpList_store_row rfl 43 (.tmp 14) (.tmp 79) rfl wr.heap.size (rowOf 6 (opV ⟨kd, cl, mc + 1, ms + 1, rf, ch⟩)) rfl rfl _ _ R7 (by rw [rowOf_size]; exact infoOp6) (by rw [rowOf_size, rowOf_size]) (opV_one _) ?_; have R8 := R7.setRow (opV ⟨kd, cl, mc + 1, ms + 1, rf, ch⟩); have HB8' : Below wr.heap.size wr ((wr.alloc (.cells #[.int .i64 0, .int .u32 0, .int .u32 0, .int .u32 0, .int .u64 0, .int .i32 0] 43)).setRow wr.heap.size (rowOf 6 (opV ⟨kd, cl, mc + 1, ms + 1, rf, ch⟩))) := below_setRow' (below1' _ _) (Nat.le_refl _) _; have HB8 := hid2 (HB.out.kept HB8'); clear R7 HB8' c72 c73; generalize World.setRow _ _ _ = w8 at R8 HB8 ⊢; obtain ⟨q0, q1, q2, q3, q4, q5⟩ := boxCells R8; have HX8 := hid2 R8; have HTk : Hid (Calls Tryz.prog 139 #[.pointer (some ⟨b, 0, none⟩), .agg #[.int .i64 kd, .int .u32 cl, .int .u32 (mc + 1), .int .u32 (ms + 1), .int .u64 rf, .int .i32 ch]] w8 fun e w' => e = .returned (.tuple #[]) ∧ RefP b cl ss dn vK (.slice aL os.length cL) (.slice aW ws.length cW) R w8 w') := (by have h := refTake_any b cl _ _ ss dn vK os ws o w8 (HRf.out.below HB8.out.below) HBk.out.set.by' HBk.out.by' (fun x hx => (by have := ok_nums (HBk.out.ok x hx); exact ⟨(by omega), (by omega)⟩)) (by have := HBk.out.len; omega) HBk.out.set.keyT (by omega) HOk.out HBo.out; rw [HRR.out] at h; obtain ⟨e1, e2, e3, e4, e5, e6⟩ := HE.out; rw [e1, e2, e3, e4, e5, e6] at h; exact h); clear R8)
     | (go_at_call 139; refine HTk.out.mono ?_; rintro e w9 ⟨rfl, hP9⟩; have HP9 := hid2 hP9; have hbt : But (fun x => x = b) w8 w9 := (by obtain ⟨_, _, _, _, _, k⟩ := hP9; exact k); have R9 := HX8.out.but hbt (fun e => (by have : wr.heap.size = b := e; omega)); have R10 := HB8.out.box.but hbt (fun e => (by have : w.heap.size = b := e; omega)); obtain ⟨z0, z1, z2, z3, z4, z5⟩ := boxCells R9; clear q0 q1 q2 q3 q4 q5 hbt hP9 R9)
     | (refine wpList_store_row rfl 43 (.tmp 8) (.tmp 83) rfl w.heap.size (rowOf 6 (opV ⟨kd, cl, mc + 1, ms + 1, rf, ch⟩)) rfl rfl _ _ R10 (by rw [rowOf_size]; exact infoOp6) (by rw [rowOf_size, rowOf_size]) (opV_one _) ?_))
    have hP10 := RefP.put HB8.out.below HP9.out R10 (Nat.le_refl _) HB8.out.box.lt HVL.out HVW.out (rowOf 6 (opV ⟨kd, cl, mc + 1, ms + 1, rf, ch⟩))
    exact bodyPost_ret (results_cell_tmp Tryz.results134 _ _ w.heap.size 43 _ (0, 0) _ _ rfl rfl (R10.setRow (opV ⟨kd, cl, mc + 1, ms + 1, rf, ch⟩)) Tryz.underlying43 rfl (by rw [rowOf_size]; exact infoOp6)) rfl (by rw [HW.out]; obtain ⟨e1, e2, e3, e4, e5, e6⟩ := HE.out; exact ⟨by show _ = Ending.returned (.tuple #[.agg #[.int .i64 o.kd, .int .u32 o.cl, .int .u32 o.ck, .int .u32 o.st, .int .u64 o.rf, .int .i32 o.ch], .int .i64 0]); rw [e1, e2, e3, e4, e5, e6]; rfl, hP10⟩)
end Go.Proofs.YtgccjefbedpmpaaGreatDoor

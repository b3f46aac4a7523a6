import Derived.Test.YtgccjefbedpmpaaGreatDoorYMix
import Derived.Deep.DeepCutAuto
namespace Go.Proofs.YtgccjefbedpmpaaGreatDoor
open Go.RowKit
set_option maxRecDepth 100000
set_option maxHeartbeats 8000000
variable {f : Nat→Value} {g : Nat} {w2 : World}
def H0 (j:Nat):Int:=[1779033703,3144134277,1013904242,2773480762,1359893119,2600822924,528734635,1541459225].getD j 0
theorem H0_w (j:Nat):W32 (H0 j):=by
 unfold W32 H0
 match j with
 | 0|1|2|3|4|5|6|7=>decide
 | n+8=>simp
theorem first_any (w:World):Cs 196 #[] w fun e w'=>e=.returned (.agg #[U3 (H0 0),U3 (H0 1),U3 (H0 2),U3 (H0 3),U3 (H0 4),U3 (H0 5),U3 (H0 6),U3 (H0 7)])∧Bel w w':=by
 go_enter Tryz.func196,Tryz.ntmps196;go_wp2;exact bodyPost_ret (v:=.agg #[U3 (H0 0),U3 (H0 1),U3 (H0 2),U3 (H0 3),U3 (H0 4),U3 (H0 5),U3 (H0 6),U3 (H0 7)]) (by simp [results,Tryz.results196,go_sem];exact ⟨rfl,rfl,rfl,rfl,rfl,rfl,rfl,rfl⟩) rfl ⟨rfl,(qj _ _).alloc (qb _) _⟩
theorem z32lit:#[U8 0,U8 0,U8 0,U8 0,U8 0,U8 0,U8 0,U8 0,U8 0,U8 0,U8 0,U8 0,U8 0,U8 0,U8 0,U8 0,U8 0,U8 0,U8 0,U8 0,U8 0,U8 0,U8 0,U8 0,U8 0,U8 0,U8 0,U8 0,U8 0,U8 0,U8 0,U8 0]=rowOf 32 (fun _=>U8 0):=rfl
theorem fin1 {w:World} {s:Nat→Int} (r0:RowIs w2 w.heap.size 137 32 (fun _=>U8 0)) (hb:Bel w w2) :
  ∃ g,(pt w2.heap.size 0)=(pt g 0)∧w.heap.size<g∧RowIs (w2.alloc (.cells #[U3 (s 0),U3 (s 1),U3 (s 2),U3 (s 3),U3 (s 4),U3 (s 5),U3 (s 6),U3 (s 7)] 77)) g 77 8 (fun j=>U3 (s j))∧RowIs (w2.alloc (.cells #[U3 (s 0),U3 (s 1),U3 (s 2),U3 (s 3),U3 (s 4),U3 (s 5),U3 (s 6),U3 (s 7)] 77)) w.heap.size 137 32 (fun _=>U8 0)∧Bel w (w2.alloc (.cells #[U3 (s 0),U3 (s 1),U3 (s 2),U3 (s 3),U3 (s 4),U3 (s 5),U3 (s 6),U3 (s 7)] 77)):=
 ⟨_,rfl,r0.lt,RowIs.last rfl rfl,r0.alloc _,hb.alloc hb.size _⟩
theorem fin2 {w:World} {s:Nat→Int} (hg:w.heap.size<g) (r:RowIs w2 g 77 8 f) (r0:RowIs w2 w.heap.size 137 32 (fun _=>U8 0)) (hb:Bel w w2) :
  ∃ g',(pt g 0)=.pointer (some ⟨g',0,none⟩)∧w.heap.size<g'∧RowIs ((((((((w2.setCell (Ad g 0) (U3 (s 0))).setCell (Ad g 1) (U3 (s 1))).setCell (Ad g 2) (U3 (s 2))).setCell (Ad g 3) (U3 (s 3))).setCell (Ad g 4) (U3 (s 4))).setCell (Ad g 5) (U3 (s 5))).setCell (Ad g 6) (U3 (s 6))).setCell (Ad g 7) (U3 (s 7))) g' 77 8 (fun j=>U3 (s j))∧RowIs ((((((((w2.setCell (Ad g 0) (U3 (s 0))).setCell (Ad g 1) (U3 (s 1))).setCell (Ad g 2) (U3 (s 2))).setCell (Ad g 3) (U3 (s 3))).setCell (Ad g 4) (U3 (s 4))).setCell (Ad g 5) (U3 (s 5))).setCell (Ad g 6) (U3 (s 6))).setCell (Ad g 7) (U3 (s 7))) w.heap.size 137 32 (fun _=>U8 0)∧Bel w ((((((((w2.setCell (Ad g 0) (U3 (s 0))).setCell (Ad g 1) (U3 (s 1))).setCell (Ad g 2) (U3 (s 2))).setCell (Ad g 3) (U3 (s 3))).setCell (Ad g 4) (U3 (s 4))).setCell (Ad g 5) (U3 (s 5))).setCell (Ad g 6) (U3 (s 6))).setCell (Ad g 7) (U3 (s 7))):=
 ⟨_,rfl,hg,r.set8 (fun j=>U3 (s j)),r0.set8Other (by omega) (fun j=>U3 (s j)),below_set8 hb (by omega) (fun j=>U3 (s j))⟩
def tailL (m:Nat→Int) (q r:Nat):List Int:=pre ((List.range r).map fun i=>m (64*q+i)) (zer r)++be8 (((64*q+r:Nat):Int)*8) 8
def nbk (r:Nat):Nat:=(r+1+zer r+8) / 64
theorem nbk_len (r:Nat):r+1+zer r+8=64*nbk r:=by have:=zer_facts r;unfold nbk;omega
theorem nbk_le (r:Nat) (h:r<64):nbk r≤2:=by have:=zer_facts r;unfold nbk;omega
theorem tailL_length (m:Nat→Int) (q r:Nat):(tailL m q r).length=64*nbk r:=by rw [← nbk_len];simp [tailL]
theorem be8_u8 (n:Int) (k:Nat):∀ x∈be8 n k,0≤x∧x≤255:=by
 intro x hx;simp [be8] at hx;obtain ⟨j,_,rfl⟩:=hx;omega
theorem tailL_u8 (m:Nat→Int) (q r:Nat) (hm:∀ i,0≤m i∧m i≤255) (i:Nat):0≤(tailL m q r).getD i 0∧(tailL m q r).getD i 0≤255:=by
 have h:∀ x∈tailL m q r,0≤x∧x≤255:=by
  intro x hx;unfold tailL pre at hx;simp only [zd] at hx;rcases hx with ((hx|hx)|hx)|hx
  ·simp at hx;obtain ⟨j,_,rfl⟩:=hx;exact hm _
  ·simp at hx;subst hx;omega
  ·have:=List.eq_of_mem_replicate hx;omega
  ·exact be8_u8 _ _ x hx
 by_cases hi:i<(tailL m q r).length
 ·rw [zv,qk hi];exact h _ (qn hi)
 ·rw [zv,zj (by omega)];simp
def shaOf (K m:Nat→Int) (q r:Nat):Nat→Int:=blks K (fun i=>(tailL m q r).getD i 0) (blks K m H0 q) (nbk r)
theorem shaOf_w (K m:Nat→Int) (q r:Nat):∀ j,W32 (shaOf K m q r j):=blks_w _ _ (blks_w _ _ H0_w _) _
theorem fin3 {w:World} {s:Nat→Int} (hg:w.heap.size<g) (r:RowIs w2 g 77 8 f) (r0:RowIs w2 w.heap.size 137 32 (fun _=>U8 0)) (hb:Bel w w2) :
  RowIs ((((((((w2.setCell (Ad g 0) (U3 (s 0))).setCell (Ad g 1) (U3 (s 1))).setCell (Ad g 2) (U3 (s 2))).setCell (Ad g 3) (U3 (s 3))).setCell (Ad g 4) (U3 (s 4))).setCell (Ad g 5) (U3 (s 5))).setCell (Ad g 6) (U3 (s 6))).setCell (Ad g 7) (U3 (s 7))) g 77 8 (fun j=>U3 (s j))∧RowIs ((((((((w2.setCell (Ad g 0) (U3 (s 0))).setCell (Ad g 1) (U3 (s 1))).setCell (Ad g 2) (U3 (s 2))).setCell (Ad g 3) (U3 (s 3))).setCell (Ad g 4) (U3 (s 4))).setCell (Ad g 5) (U3 (s 5))).setCell (Ad g 6) (U3 (s 6))).setCell (Ad g 7) (U3 (s 7))) w.heap.size 137 32 (fun _=>U8 0)∧Bel w ((((((((w2.setCell (Ad g 0) (U3 (s 0))).setCell (Ad g 1) (U3 (s 1))).setCell (Ad g 2) (U3 (s 2))).setCell (Ad g 3) (U3 (s 3))).setCell (Ad g 4) (U3 (s 4))).setCell (Ad g 5) (U3 (s 5))).setCell (Ad g 6) (U3 (s 6))).setCell (Ad g 7) (U3 (s 7))):=
 ⟨r.set8 (fun j=>U3 (s j)),r0.set8Other (by omega) (fun j=>U3 (s j)),below_set8 hb (by omega) (fun j=>U3 (s j))⟩
theorem own_cells {w:World} {base e n cap:Nat} {l:List Int} (h:w.ownsRow base e 1 (.slice (some (Ad g 0)) n cap) n (u8s l)) (hl:l.length=n):∀ i,i<n→w.cell? ⟨g,0+i,none⟩=some (U8 (l.getD i 0)):=by
 intro i hi;rw [q9,h.cellAt i (by omega)];have h2:i<l.length:=by omega
 simp [u8s,h2]
theorem range_u8 (f:Nat→Int) {r j:Nat} {u:Value} (h:(u8s ((List.range r).map f))[j]?=some u):j<r∧u=U8 (f j):=by
 by_cases hj:j<r
 ·simp [u8s,hj] at h;exact ⟨hj,h.symm⟩
 ·rw [zj (by simp;omega)] at h;cases h
theorem bcell {W w1:World} (hb:Bel W w1):(∀ b o,b<W.heap.size→w1.cell? (Ad b o)=W.cell? (Ad b o))∧(∀ b o,b<W.heap.size→w1.frozen? (Ad b o)=W.frozen? (Ad b o)):=
 ⟨fun b o h=>hb.cell (p:=(Ad b o)) h,fun b o h=>hb.frozen (p:=(Ad b o)) h⟩
theorem sum_ne (b off cap q r:Nat) (K m:Nat→Int) (w:World) (hg:11<w.heap.size) (hK:∀ j,j<64→w.cell? (Ad 11 j)=some (U3 (K j)))
  (hm:∀ i,0≤m i∧m i≤255) (hcell:∀ i,i<64*q+r→w.cell? ⟨b,off+i,none⟩=some (U8 (m i))) (hb:b<w.heap.size) (hr:r<64) (hn:64*q+r≤140737488355328) (hcap:64*q+r≤cap) (hne:¬ cap=64*q) :
  Cs 117 #[.slice (some (Ad b off)) (64*q+r) cap] w fun e w'=>e=.returned (.agg (rowOf 32 fun n=>U8 (outB (shaOf K m q r) n)))∧Bel w w':=by
 have e1:(64*(q:Int)+(r:Int)) % 64=r:=by omega
 have e2:64*(q:Int)+(r:Int)-r=64*q:=by omega
 have e3:(64*(q:Int)).toNat=64*q:=by omega
 have e4:(64*(q:Int))≤cap:=by omega
 have e5:(0:Int)≤64*(q:Int):=by omega
 have e6:(64*(q:Int))≤64*(q:Int)+r:=by omega
 have Hcell:Hid (∀ i,i<64*q+r→w.cell? ⟨b,off+i,none⟩=some (U8 (m i))):=hcell;have HK:Hid (∀ j,j<64→w.cell? (Ad 11 j)=some (U3 (K j))):=hK;have Hm:Hid (∀ i,0≤m i∧m i≤255):=hm;clear hcell hK hm
 have hcm:∀ W,Bel w W→Cs 195 #[.agg #[U3 (H0 0),U3 (H0 1),U3 (H0 2),U3 (H0 3),U3 (H0 4),U3 (H0 5),U3 (H0 6),U3 (H0 7)],.slice (some (Ad b off)) (64*q) cap] W fun e w'=>e=.returned (.agg #[U3 (blks K m H0 q 0),U3 (blks K m H0 q 1),U3 (blks K m H0 q 2),U3 (blks K m H0 q 3),U3 (blks K m H0 q 4),U3 (blks K m H0 q 5),U3 (blks K m H0 q 6),U3 (blks K m H0 q 7)])∧Bel W w':=fun W hW=>
  mixAll_any H0 K m b off q cap _ (ql hg hW.size) (fun j hj=>(hW.cell hg).trans (HK.out j hj)) H0_w Hm.out (fun i hi=>(hW.cell hb).trans (Hcell.out i (by omega))) (ql hb hW.size) (by omega) (by omega)
 have Hcm:Hid (∀ W,Bel w W→Cs 195 #[.agg #[U3 (H0 0),U3 (H0 1),U3 (H0 2),U3 (H0 3),U3 (H0 4),U3 (H0 5),U3 (H0 6),U3 (H0 7)],.slice (some (Ad b off)) (64*q) cap] W fun e w'=>e=.returned (.agg #[U3 (blks K m H0 q 0),U3 (blks K m H0 q 1),U3 (blks K m H0 q 2),U3 (blks K m H0 q 3),U3 (blks K m H0 q 4),U3 (blks K m H0 q 5),U3 (blks K m H0 q 6),U3 (blks K m H0 q 7)])∧Bel W w'):=hcm
 have hct:∀ W,Bel w W→Cs 197 #[.slice (some ⟨b,off+64*q,none⟩) r (cap-64*q),I6 (64*(q:Int)+(r:Int))] W fun e w'=>e=.returned (.slice (some (Ad W.heap.size 0)) (64*nbk r) 128)∧w'.ownsRow W.heap.size 5 1 (.slice (some (Ad W.heap.size 0)) (64*nbk r) 128) (64*nbk r) (u8s (tailL m q r))∧Bel W w':=fun W hW=>by
  have:=tail_any b (off+64*q) (cap-64*q) ((List.range r).map fun i=>m (64*q+i)) (64*q+r) W (by simpa using hr) hn (fun j u hj=>by
   obtain ⟨hjr,rfl⟩:=range_u8 (fun i=>m (64*q+i)) hj;rw [Addr.add_mid,zu]
   exact (hW.cell hb).trans (Hcell.out _ (by omega)))
  simp only [ze,yj] at this;rw [nbk_len] at this;rw [show (64*(q:Int)+(r:Int))=((64*q+r:Nat):Int) by omega];exact this
 have Hct:Hid (∀ W,Bel w W→Cs 197 #[.slice (some ⟨b,off+64*q,none⟩) r (cap-64*q),I6 (64*(q:Int)+(r:Int))] W fun e w'=>e=.returned (.slice (some (Ad W.heap.size 0)) (64*nbk r) 128)∧w'.ownsRow W.heap.size 5 1 (.slice (some (Ad W.heap.size 0)) (64*nbk r) 128) (64*nbk r) (u8s (tailL m q r))∧Bel W w'):=hct;have hn2:=nbk_le r hr
 have hc2:∀ W gt,Bel w W→gt<W.heap.size→W.ownsRow gt 5 1 (.slice (some (Ad gt 0)) (64*nbk r) 128) (64*nbk r) (u8s (tailL m q r))→Cs 195 #[.agg #[U3 (blks K m H0 q 0),U3 (blks K m H0 q 1),U3 (blks K m H0 q 2),U3 (blks K m H0 q 3),U3 (blks K m H0 q 4),U3 (blks K m H0 q 5),U3 (blks K m H0 q 6),U3 (blks K m H0 q 7)],.slice (some (Ad gt 0)) (64*nbk r) 128] W fun e w'=>e=.returned (.agg #[U3 (shaOf K m q r 0),U3 (shaOf K m q r 1),U3 (shaOf K m q r 2),U3 (shaOf K m q r 3),U3 (shaOf K m q r 4),U3 (shaOf K m q r 5),U3 (shaOf K m q r 6),U3 (shaOf K m q r 7)])∧Bel W w':=fun W gt hW hgt hown=>
  mixAll_any (blks K m H0 q) K (fun i=>(tailL m q r).getD i 0) gt 0 (nbk r) 128 _ (ql hg hW.size) (fun j hj=>(hW.cell hg).trans (HK.out j hj)) (blks_w K m H0_w q) (tailL_u8 m q r Hm.out) (own_cells hown (tailL_length m q r)) hgt (by omega) (by omega)
 have Hc2:Hid (∀ W gt,Bel w W→gt<W.heap.size→W.ownsRow gt 5 1 (.slice (some (Ad gt 0)) (64*nbk r) 128) (64*nbk r) (u8s (tailL m q r))→Cs 195 #[.agg #[U3 (blks K m H0 q 0),U3 (blks K m H0 q 1),U3 (blks K m H0 q 2),U3 (blks K m H0 q 3),U3 (blks K m H0 q 4),U3 (blks K m H0 q 5),U3 (blks K m H0 q 6),U3 (blks K m H0 q 7)],.slice (some (Ad gt 0)) (64*nbk r) 128] W fun e w'=>e=.returned (.agg #[U3 (shaOf K m q r 0),U3 (shaOf K m q r 1),U3 (shaOf K m q r 2),U3 (shaOf K m q r 3),U3 (shaOf K m q r 4),U3 (shaOf K m q r 5),U3 (shaOf K m q r 6),U3 (shaOf K m q r 7)])∧Bel W w'):=hc2;clear hcm hct hc2 hn2;have e7:64*(q:Int)≤64*(q:Int)+(r:Int):=by omega
 have e8:(64*(q:Int)+(r:Int)).toNat=64*q+r:=by omega
 have e9:64*q+r-64*q=r:=by omega
 go_enter Tryz.func117,Tryz.ntmps117;go_upto_region 2 with fail;go_cut [4] (fun s4 wx=>∃ g,s4=(pt g 0)∧w.heap.size<g∧RowIs wx g 77 8 (fun j=>U3 (blks K m H0 q j))∧RowIs wx w.heap.size 137 32 (fun _=>U8 0)∧Bel w wx)
 case first=>
  go_region_with (first|(go_at_call 196;refine (first_any _).mono ?_;rintro e w1 ⟨rfl,hb1⟩;obtain ⟨hc1,hf1⟩:=bcell hb1;have hs1:=hb1.size;(try (have hlt1:w.heap.size+1<w1.heap.size:=(by simp at hs1;omega)));have hbw:Bel w w1:=(by refine Below.trans ?_ (hb1.mono (by simp<;>omega));repeat (first|exact qj _ _|refine Below.drew ?_|refine Below.alloc ?_ (by simp<;>omega) _)))|(go_at_call 195;refine (Hcm.out _ ?_).mono ?_;(first|exact hbw|exact hbw.alloc hbw.size _);rintro e w2 ⟨rfl,hb2⟩;obtain ⟨hc2,hf2⟩:=bcell hb2;have hs2:=hb2.size))
  all_goals go_wp2_with fail
  all_goals go_meet
  ·have r0:=((RowIs.last (w:=w) (t:=137) rfl z32lit).drew.below hb1 (by simp));exact fin1 (r0.below hb2 r0.lt) (hbw.trans (hb2.mono hbw.size))
  ·have r0:=((RowIs.last (w:=w) (t:=137) rfl z32lit).drew.below hb1 (by simp));exact fin2 r0.lt (RowIs.below (RowIs.last (w:=w1) (t:=77) (n:=8) (f:=fun _=>U3 0) rfl rfl) hb2 (by simp)) ((r0.alloc _).below hb2 (r0.alloc _).lt) ((hbw.alloc hbw.size _).trans (hb2.mono (by simp;have:=hbw.size;omega)))
  ·have r0:=((RowIs.last (w:=w) (t:=137) rfl z32lit).alloc _).drew.below hb1 (by simp<;>omega);have r4:=RowIs.below (RowIs.drew (RowIs.last (w:=w.alloc (.cells #[U8 0,U8 0,U8 0,U8 0,U8 0,U8 0,U8 0,U8 0,U8 0,U8 0,U8 0,U8 0,U8 0,U8 0,U8 0,U8 0,U8 0,U8 0,U8 0,U8 0,U8 0,U8 0,U8 0,U8 0,U8 0,U8 0,U8 0,U8 0,U8 0,U8 0,U8 0,U8 0] 137)) (t:=77) (n:=8) (g:=w.heap.size+1) (f:=fun _=>U3 0) (by simp) rfl)) hb1 (by simp);exact fin2 (by omega) (r4.below hb2 r4.lt) (r0.below hb2 r0.lt) (hbw.trans (hb2.mono hbw.size))
 case rest=>
  obtain ⟨g,rfl,hgw,hr4,hr0,hbl⟩:=hcut;have c0:=hr4.cell (show 0<8 by omega);have c1:=hr4.cell (show 1<8 by omega);have c2:=hr4.cell (show 2<8 by omega);have c3:=hr4.cell (show 3<8 by omega);have c4:=hr4.cell (show 4<8 by omega);have c5:=hr4.cell (show 5<8 by omega);have c6:=hr4.cell (show 6<8 by omega);have c7:=hr4.cell (show 7<8 by omega);have hgl:=hr4.lt;have f4:=hr4.free;go_upto_region 3 with fail;go_cut [] (fun wx=>RowIs wx g 77 8 (fun j=>U3 (shaOf K m q r j))∧RowIs wx w.heap.size 137 32 (fun _=>U8 0)∧Bel w wx)
  case first=>
   go_region_with (first|(go_at_call 197;refine (Hct.out _ ?_).mono ?_;exact hbl.drew;rintro e w5 ⟨rfl,hown5,hb5⟩;have r5:=hr4.drew.below hb5 hgl;have j0:=r5.cell (show 0<8 by omega);have j1:=r5.cell (show 1<8 by omega);have j2:=r5.cell (show 2<8 by omega);have j3:=r5.cell (show 3<8 by omega);have j4:=r5.cell (show 4<8 by omega);have j5:=r5.cell (show 5<8 by omega);have j6:=r5.cell (show 6<8 by omega);have j7:=r5.cell (show 7<8 by omega);have hs5:wc.heap.size≤w5.heap.size:=hb5.size;have hbw5:Bel w w5:=hbl.drew.trans (hb5.mono hbl.size);have hgl5:g<w5.heap.size:=ql hgl hs5)|(go_at_call 195;refine (Hc2.out _ _ hbw5 (hown5.lt _ rfl).2 hown5).mono ?_;rintro e w6 ⟨rfl,hb6⟩;have r6:=((hr4.drew.below hb5 hgl).below hb6 hgl5);have k0:=r6.cell (show 0<8 by omega);have k1:=r6.cell (show 1<8 by omega);have k2:=r6.cell (show 2<8 by omega);have k3:=r6.cell (show 3<8 by omega);have k4:=r6.cell (show 4<8 by omega);have k5:=r6.cell (show 5<8 by omega);have k6:=r6.cell (show 6<8 by omega);have k7:=r6.cell (show 7<8 by omega);have f6:=r6.free))
   all_goals go_wp2_with fail
   all_goals go_meet
   all_goals exact fin3 hgw ((hr4.drew.below hb5 hgl).below hb6 hgl5) ((hr0.drew.below hb5 hr0.lt).below hb6 (ql hr0.lt hs5)) (hbw5.trans (hb6.mono hbw5.size))
  case rest=>
   clear c0 c1 c2 c3 c4 c5 c6 c7 hgl f4 hr4 hr0 hbl;obtain ⟨hr4,hr0,hbl⟩:=hcut;have c0:=hr4.cell (show 0<8 by omega);have c1:=hr4.cell (show 1<8 by omega);have c2:=hr4.cell (show 2<8 by omega);have c3:=hr4.cell (show 3<8 by omega);have c4:=hr4.cell (show 4<8 by omega);have c5:=hr4.cell (show 5<8 by omega);have c6:=hr4.cell (show 6<8 by omega);have c7:=hr4.cell (show 7<8 by omega);go_wp2_with (first|(go_at_call 198;refine (spread_any (shaOf K m q r) _ (shaOf_w K m q r)).mono ?_;rintro e w7 ⟨rfl,hb7⟩;have hr07:=hr0.below hb7 hr0.lt)|(refine wpList_store_row rfl 137 (.tmp 2) (.tmp 25) rfl w.heap.size _ rfl rfl _ _ hr07 (by rw [rowOf_size];exact info90) (by rw [rowOf_size,rowOf_size]) (ints_one _ _ _) ?_));refine bodyPost_ret (v:=.agg (rowOf 32 fun n=>U8 (outB (shaOf K m q r) n))) (results_cell_row Tryz.results117 _ _ w.heap.size 137 _ (0,0) _ rfl (hr07.setRow _) Tryz.underlying137 rfl (by rw [rowOf_size];exact info90)) rfl ⟨rfl,kn (hbl.trans (hb7.mono hbl.size)) (qb _) _⟩
theorem sum_eq (b off q:Nat) (K m:Nat→Int) (w:World) (hg:11<w.heap.size) (hK:∀ j,j<64→w.cell? (Ad 11 j)=some (U3 (K j)))
  (hm:∀ i,0≤m i∧m i≤255) (hcell:∀ i,i<64*q→w.cell? ⟨b,off+i,none⟩=some (U8 (m i))) (hb:b<w.heap.size) (hn:64*q≤140737488355328) :
  Cs 117 #[.slice (some (Ad b off)) (64*q) (64*q)] w fun e w'=>e=.returned (.agg (rowOf 32 fun n=>U8 (outB (shaOf K m q 0) n)))∧Bel w w':=by
 have e1:(64*(q:Int)) % 64=0:=by omega
 have e2:64*(q:Int)-0=64*(q:Int):=by omega
 have e3:(64*(q:Int)).toNat=64*q:=by omega
 have e4:(64*(q:Int))≤64*(q:Int):=by omega
 have e5:(0:Int)≤64*(q:Int):=by omega
 have e6:(64*(q:Int))≤64*(q:Int):=by omega
 have Hcell:Hid (∀ i,i<64*q→w.cell? ⟨b,off+i,none⟩=some (U8 (m i))):=hcell;have HK:Hid (∀ j,j<64→w.cell? (Ad 11 j)=some (U3 (K j))):=hK;have Hm:Hid (∀ i,0≤m i∧m i≤255):=hm;clear hcell hK hm
 have hcm:∀ W,Bel w W→Cs 195 #[.agg #[U3 (H0 0),U3 (H0 1),U3 (H0 2),U3 (H0 3),U3 (H0 4),U3 (H0 5),U3 (H0 6),U3 (H0 7)],.slice (some (Ad b off)) (64*q) (64*q)] W fun e w'=>e=.returned (.agg #[U3 (blks K m H0 q 0),U3 (blks K m H0 q 1),U3 (blks K m H0 q 2),U3 (blks K m H0 q 3),U3 (blks K m H0 q 4),U3 (blks K m H0 q 5),U3 (blks K m H0 q 6),U3 (blks K m H0 q 7)])∧Bel W w':=fun W hW=>
  mixAll_any H0 K m b off q (64*q) _ (ql hg hW.size) (fun j hj=>(hW.cell hg).trans (HK.out j hj)) H0_w Hm.out (fun i hi=>(hW.cell hb).trans (Hcell.out i (by omega))) (ql hb hW.size) (by omega) (by omega)
 have Hcm:Hid (∀ W,Bel w W→Cs 195 #[.agg #[U3 (H0 0),U3 (H0 1),U3 (H0 2),U3 (H0 3),U3 (H0 4),U3 (H0 5),U3 (H0 6),U3 (H0 7)],.slice (some (Ad b off)) (64*q) (64*q)] W fun e w'=>e=.returned (.agg #[U3 (blks K m H0 q 0),U3 (blks K m H0 q 1),U3 (blks K m H0 q 2),U3 (blks K m H0 q 3),U3 (blks K m H0 q 4),U3 (blks K m H0 q 5),U3 (blks K m H0 q 6),U3 (blks K m H0 q 7)])∧Bel W w'):=hcm
 have hct:∀ W,Bel w W→Cs 197 #[.slice (some (Ad b off)) 0 0,I6 (64*(q:Int))] W fun e w'=>e=.returned (.slice (some (Ad W.heap.size 0)) (64*nbk 0) 128)∧w'.ownsRow W.heap.size 5 1 (.slice (some (Ad W.heap.size 0)) (64*nbk 0) 128) (64*nbk 0) (u8s (tailL m q 0))∧Bel W w':=fun W hW=>by
  have:=tail_any b off 0 [] (64*q) W (by simp) hn (fun j u hj=>by simp [u8s] at hj);simp only [qv] at this;rw [nbk_len] at this;rw [show (64*(q:Int))=((64*q:Nat):Int) by omega];have e:u8s (pre [] (zer 0)++be8 (((64*q:Nat):Int)*8) 8)=u8s (tailL m q 0):=rfl;rw [← e];exact this
 have Hct:Hid (∀ W,Bel w W→Cs 197 #[.slice (some (Ad b off)) 0 0,I6 (64*(q:Int))] W fun e w'=>e=.returned (.slice (some (Ad W.heap.size 0)) (64*nbk 0) 128)∧w'.ownsRow W.heap.size 5 1 (.slice (some (Ad W.heap.size 0)) (64*nbk 0) 128) (64*nbk 0) (u8s (tailL m q 0))∧Bel W w'):=hct;have hn2:=nbk_le 0 (by decide)
 have hc2:∀ W gt,Bel w W→gt<W.heap.size→W.ownsRow gt 5 1 (.slice (some (Ad gt 0)) (64*nbk 0) 128) (64*nbk 0) (u8s (tailL m q 0))→Cs 195 #[.agg #[U3 (blks K m H0 q 0),U3 (blks K m H0 q 1),U3 (blks K m H0 q 2),U3 (blks K m H0 q 3),U3 (blks K m H0 q 4),U3 (blks K m H0 q 5),U3 (blks K m H0 q 6),U3 (blks K m H0 q 7)],.slice (some (Ad gt 0)) (64*nbk 0) 128] W fun e w'=>e=.returned (.agg #[U3 (shaOf K m q 0 0),U3 (shaOf K m q 0 1),U3 (shaOf K m q 0 2),U3 (shaOf K m q 0 3),U3 (shaOf K m q 0 4),U3 (shaOf K m q 0 5),U3 (shaOf K m q 0 6),U3 (shaOf K m q 0 7)])∧Bel W w':=fun W gt hW hgt hown=>
  mixAll_any (blks K m H0 q) K (fun i=>(tailL m q 0).getD i 0) gt 0 (nbk 0) 128 _ (ql hg hW.size) (fun j hj=>(hW.cell hg).trans (HK.out j hj)) (blks_w K m H0_w q) (tailL_u8 m q 0 Hm.out) (own_cells hown (tailL_length m q 0)) hgt (by omega) (by omega)
 have Hc2:Hid (∀ W gt,Bel w W→gt<W.heap.size→W.ownsRow gt 5 1 (.slice (some (Ad gt 0)) (64*nbk 0) 128) (64*nbk 0) (u8s (tailL m q 0))→Cs 195 #[.agg #[U3 (blks K m H0 q 0),U3 (blks K m H0 q 1),U3 (blks K m H0 q 2),U3 (blks K m H0 q 3),U3 (blks K m H0 q 4),U3 (blks K m H0 q 5),U3 (blks K m H0 q 6),U3 (blks K m H0 q 7)],.slice (some (Ad gt 0)) (64*nbk 0) 128] W fun e w'=>e=.returned (.agg #[U3 (shaOf K m q 0 0),U3 (shaOf K m q 0 1),U3 (shaOf K m q 0 2),U3 (shaOf K m q 0 3),U3 (shaOf K m q 0 4),U3 (shaOf K m q 0 5),U3 (shaOf K m q 0 6),U3 (shaOf K m q 0 7)])∧Bel W w'):=hc2;clear hcm hct hc2 hn2;have e7:64*(q:Int)≤64*(q:Int):=by omega
 have e8:(64*(q:Int)).toNat=64*q:=by omega
 have e9:64*q-64*q=0:=by omega
 go_enter Tryz.func117,Tryz.ntmps117;go_upto_region 2 with fail;go_cut [4] (fun s4 wx=>∃ g,s4=(pt g 0)∧w.heap.size<g∧RowIs wx g 77 8 (fun j=>U3 (blks K m H0 q j))∧RowIs wx w.heap.size 137 32 (fun _=>U8 0)∧Bel w wx)
 case first=>
  go_region_with (first|(go_at_call 196;refine (first_any _).mono ?_;rintro e w1 ⟨rfl,hb1⟩;obtain ⟨hc1,hf1⟩:=bcell hb1;have hs1:=hb1.size;(try (have hlt1:w.heap.size+1<w1.heap.size:=(by simp at hs1;omega)));have hbw:Bel w w1:=(by refine Below.trans ?_ (hb1.mono (by simp<;>omega));repeat (first|exact qj _ _|refine Below.drew ?_|refine Below.alloc ?_ (by simp<;>omega) _)))|(go_at_call 195;refine (Hcm.out _ ?_).mono ?_;(first|exact hbw|exact hbw.alloc hbw.size _);rintro e w2 ⟨rfl,hb2⟩;obtain ⟨hc2,hf2⟩:=bcell hb2;have hs2:=hb2.size))
  all_goals go_wp2_with fail
  all_goals go_meet
  ·have r0:=((RowIs.last (w:=w) (t:=137) rfl z32lit).drew.below hb1 (by simp));exact fin1 (r0.below hb2 r0.lt) (hbw.trans (hb2.mono hbw.size))
  ·have r0:=((RowIs.last (w:=w) (t:=137) rfl z32lit).drew.below hb1 (by simp));exact fin2 r0.lt (RowIs.below (RowIs.last (w:=w1) (t:=77) (n:=8) (f:=fun _=>U3 0) rfl rfl) hb2 (by simp)) ((r0.alloc _).below hb2 (r0.alloc _).lt) ((hbw.alloc hbw.size _).trans (hb2.mono (by simp;have:=hbw.size;omega)))
  ·have r0:=((RowIs.last (w:=w) (t:=137) rfl z32lit).alloc _).drew.below hb1 (by simp<;>omega);have r4:=RowIs.below (RowIs.drew (RowIs.last (w:=w.alloc (.cells #[U8 0,U8 0,U8 0,U8 0,U8 0,U8 0,U8 0,U8 0,U8 0,U8 0,U8 0,U8 0,U8 0,U8 0,U8 0,U8 0,U8 0,U8 0,U8 0,U8 0,U8 0,U8 0,U8 0,U8 0,U8 0,U8 0,U8 0,U8 0,U8 0,U8 0,U8 0,U8 0] 137)) (t:=77) (n:=8) (g:=w.heap.size+1) (f:=fun _=>U3 0) (by simp) rfl)) hb1 (by simp);exact fin2 (by omega) (r4.below hb2 r4.lt) (r0.below hb2 r0.lt) (hbw.trans (hb2.mono hbw.size))
 case rest=>
  obtain ⟨g,rfl,hgw,hr4,hr0,hbl⟩:=hcut;have c0:=hr4.cell (show 0<8 by omega);have c1:=hr4.cell (show 1<8 by omega);have c2:=hr4.cell (show 2<8 by omega);have c3:=hr4.cell (show 3<8 by omega);have c4:=hr4.cell (show 4<8 by omega);have c5:=hr4.cell (show 5<8 by omega);have c6:=hr4.cell (show 6<8 by omega);have c7:=hr4.cell (show 7<8 by omega);have hgl:=hr4.lt;have f4:=hr4.free;go_upto_region 3 with fail;go_cut [] (fun wx=>RowIs wx g 77 8 (fun j=>U3 (shaOf K m q 0 j))∧RowIs wx w.heap.size 137 32 (fun _=>U8 0)∧Bel w wx)
  case first=>
   go_region_with (first|(go_at_call 197;refine (Hct.out _ ?_).mono ?_;exact hbl.drew;rintro e w5 ⟨rfl,hown5,hb5⟩;have r5:=hr4.drew.below hb5 hgl;have j0:=r5.cell (show 0<8 by omega);have j1:=r5.cell (show 1<8 by omega);have j2:=r5.cell (show 2<8 by omega);have j3:=r5.cell (show 3<8 by omega);have j4:=r5.cell (show 4<8 by omega);have j5:=r5.cell (show 5<8 by omega);have j6:=r5.cell (show 6<8 by omega);have j7:=r5.cell (show 7<8 by omega);have hs5:wc.heap.size≤w5.heap.size:=hb5.size;have hbw5:Bel w w5:=hbl.drew.trans (hb5.mono hbl.size);have hgl5:g<w5.heap.size:=ql hgl hs5)|(go_at_call 195;refine (Hc2.out _ _ hbw5 (hown5.lt _ rfl).2 hown5).mono ?_;rintro e w6 ⟨rfl,hb6⟩;have r6:=((hr4.drew.below hb5 hgl).below hb6 hgl5);have k0:=r6.cell (show 0<8 by omega);have k1:=r6.cell (show 1<8 by omega);have k2:=r6.cell (show 2<8 by omega);have k3:=r6.cell (show 3<8 by omega);have k4:=r6.cell (show 4<8 by omega);have k5:=r6.cell (show 5<8 by omega);have k6:=r6.cell (show 6<8 by omega);have k7:=r6.cell (show 7<8 by omega);have f6:=r6.free))
   all_goals go_wp2_with fail
   all_goals go_meet
   all_goals exact fin3 hgw ((hr4.drew.below hb5 hgl).below hb6 hgl5) ((hr0.drew.below hb5 hr0.lt).below hb6 (ql hr0.lt hs5)) (hbw5.trans (hb6.mono hbw5.size))
  case rest=>
   clear c0 c1 c2 c3 c4 c5 c6 c7 hgl f4 hr4 hr0 hbl;obtain ⟨hr4,hr0,hbl⟩:=hcut;have c0:=hr4.cell (show 0<8 by omega);have c1:=hr4.cell (show 1<8 by omega);have c2:=hr4.cell (show 2<8 by omega);have c3:=hr4.cell (show 3<8 by omega);have c4:=hr4.cell (show 4<8 by omega);have c5:=hr4.cell (show 5<8 by omega);have c6:=hr4.cell (show 6<8 by omega);have c7:=hr4.cell (show 7<8 by omega);go_wp2_with (first|(go_at_call 198;refine (spread_any (shaOf K m q 0) _ (shaOf_w K m q 0)).mono ?_;rintro e w7 ⟨rfl,hb7⟩;have hr07:=hr0.below hb7 hr0.lt)|(refine wpList_store_row rfl 137 (.tmp 2) (.tmp 25) rfl w.heap.size _ rfl rfl _ _ hr07 (by rw [rowOf_size];exact info90) (by rw [rowOf_size,rowOf_size]) (ints_one _ _ _) ?_));refine bodyPost_ret (v:=.agg (rowOf 32 fun n=>U8 (outB (shaOf K m q 0) n))) (results_cell_row Tryz.results117 _ _ w.heap.size 137 _ (0,0) _ rfl (hr07.setRow _) Tryz.underlying137 rfl (by rw [rowOf_size];exact info90)) rfl ⟨rfl,kn (hbl.trans (hb7.mono hbl.size)) (qb _) _⟩

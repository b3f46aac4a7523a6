import Derived.Test.YtgccjefbedpmpaaGreatDoorYMem
import Derived.Deep.QuietTactic
import Derived.BigQuiet
namespace Go.Proofs.YtgccjefbedpmpaaGreatDoor
open Go.RowKit
set_option maxRecDepth 100000
set_option maxHeartbeats 8000000
variable {B g k n : Nat} {f : Nat→Value} {wr : World}
def rnd (k x:Int) (s:Nat→Int):Nat→Int
 | 0=>(s 7+S1 (s 4)+ch (s 4) (s 5) (s 6)+k+x+(S0 (s 0)+mj (s 0) (s 1) (s 2))) % 4294967296
 | 1=>s 0
 | 2=>s 1
 | 3=>s 2
 | 4=>(s 3+(s 7+S1 (s 4)+ch (s 4) (s 5) (s 6)+k+x)) % 4294967296
 | 5=>s 4
 | 6=>s 5
 | _=>s 6
def stt (K X:Nat→Int) (s:Nat→Int):Nat→Nat→Int
 | 0=>s
 | k+1=>rnd (K k) (X k) (stt K X s k)
theorem rnd_w (k x:Int) {s:Nat→Int} (h:∀ j,W32 (s j)):∀ j,W32 (rnd k x s j):=by
 intro j
 match j with
 | 0=>exact ⟨Int.emod_nonneg _ (by decide),Int.emod_lt_of_pos _ (by decide)⟩
 | 1=>exact h 0
 | 2=>exact h 1
 | 3=>exact h 2
 | 4=>exact ⟨Int.emod_nonneg _ (by decide),Int.emod_lt_of_pos _ (by decide)⟩
 | 5=>exact h 4
 | 6=>exact h 5
 | _+7=>exact h 6
theorem stt_w (K X:Nat→Int) {s:Nat→Int} (h:∀ j,W32 (s j)) (k:Nat):∀ j,W32 (stt K X s k j):=by
 induction k with
 | zero=>exact h
 | succ k ih=>exact rnd_w _ _ ih
def blk (K X s:Nat→Int) (j:Nat):Int:=(stt K X s 64 j+s j) % 4294967296
theorem blk_w (K X s:Nat→Int) (j:Nat):W32 (blk K X s j):=by unfold W32 blk;omega
theorem info27:(Tryz.prog.info? 77).map (·.size)=some 8:=by kernel_rfl
theorem one8 (a b c d e f g h:Int):(#[U3 a,U3 b,U3 c,U3 d,U3 e,U3 f,U3 g,U3 h]).all (fun x=>x.oneCell')=true:=by simp [Value.oneCell']
theorem mix_rel1 {K X s st:Nat→Int} (hst:stt K X s k=st) (hr:RowIs wr g 77 8 (fun j=>U3 (st j))) :
  RowIs (wr.setRow g #[U3 ((st 7+S1 (st 4)+ch (st 4) (st 5) (st 6)+K k+X k+(S0 (st 0)+mj (st 0) (st 1) (st 2))) % 4294967296),U3 (st 0),U3 (st 1),U3 (st 2),U3 ((st 3+(st 7+S1 (st 4)+ch (st 4) (st 5) (st 6)+K k+X k)) % 4294967296),U3 (st 4),U3 (st 5),U3 (st 6)]) g 77 8 (fun j=>U3 (stt K X s (k+1) j)):=by
 subst hst;exact hr.setRow (fun j=>U3 (stt K X s (k+1) j))
def addTo (a s:Nat→Int) (k j:Nat):Value:=U3 (if j<k then (a j+s j) % 4294967296 else a j)
theorem addTo_step (a s:Nat→Int) (k j:Nat):(if j=k then U3 ((a k+s k) % 4294967296) else addTo a s k j)=addTo a s (k+1) j:=by
 unfold addTo;by_cases h:j=k
 ·subst h;simp
 ·by_cases h':j<k
  ·simp [h,h',show j<k+1 by omega]
  ·simp [h,h',show ¬ j<k+1 by omega]
theorem addTo_at (a s:Nat→Int) (k:Nat):addTo a s k k=U3 (a k):=by simp [addTo]
theorem addTo_end (K X s:Nat→Int):rowOf 8 (addTo (stt K X s 64) s 8)=rowOf 8 (fun j=>U3 (blk K X s j)):=xv fun j hj=>by simp [addTo,hj,blk]
theorem mix_rel2 {a s:Nat→Int} (hr:RowIs wr g 77 8 (addTo a s k)):RowIs (wr.setCell (Ad g k) (U3 ((a k+s k) % 4294967296))).drew g 77 8 (addTo a s (k+1)):=
 ((hr.set k _).drew).congr fun j _=>addTo_step a s k j
theorem RowIs.drewN {w:World} {t:TypeId} (h:RowIs w g t n f) (k:Nat):RowIs (w.drewN k) g t n f:=h
theorem Below.drewsN {w w':World} (h:Below B w w') (k:Nat):Below B w (w'.drewN k):=⟨h.os,h.tape,h.output,h.size,h.block⟩
theorem mix_any (s X K:Nat→Int) (w:World) (hg:11<w.heap.size) (hK:∀ j,j<64→w.cell? (Ad 11 j)=some (U3 (K j))) (hs:∀ j,W32 (s j)) :
  Cs 254 #[.agg #[U3 (s 0),U3 (s 1),U3 (s 2),U3 (s 3),U3 (s 4),U3 (s 5),U3 (s 6),U3 (s 7)],.agg (rowOf 64 fun j=>U3 (X j))] w fun e w'=>e=.returned (.agg #[U3 (blk K X s 0),U3 (blk K X s 1),U3 (blk K X s 2),U3 (blk K X s 3),U3 (blk K X s 4),U3 (blk K X s 5),U3 (blk K X s 6),U3 (blk K X s 7)])∧Bel w w':=by
 go_enter Tryz.func254,Tryz.ntmps254;go_wp2
 go_loopw [11] (fun i wr=>∃ k:Nat,k≤64∧i=I6 k∧RowIs wr (w.heap.size+3) 77 8 (fun j=>U3 (stt K X s k j))∧RowIs wr w.heap.size 77 8 (fun j=>U3 (s j))∧RowIs wr (w.heap.size+1) 78 64 (fun j=>U3 (X j))∧RowIs wr (w.heap.size+2) 77 8 (fun _=>U3 0)∧Bel w wr)
  (fun i _=>64-(intOf i).toNat)
 case atStart=>
  obtain ⟨r1,r2,r3,r4,r5⟩:=rows4 w (.cells #[U3 (s 0),U3 (s 1),U3 (s 2),U3 (s 3),U3 (s 4),U3 (s 5),U3 (s 6),U3 (s 7)] 77) (.cells (rowOf 64 fun j=>U3 (X j)) 78) (.cells #[U3 0,U3 0,U3 0,U3 0,U3 0,U3 0,U3 0,U3 0] 77) (.cells #[U3 (s 0),U3 (s 1),U3 (s 2),U3 (s 3),U3 (s 4),U3 (s 5),U3 (s 6),U3 (s 7)] 77);exact ⟨0,by omega,rfl,RowIs.of r4 rfl,RowIs.of r1 rfl,r2,RowIs.of r3 rfl,r5⟩
 case round=>
  obtain ⟨k,hk,rfl,hr,hs0,hx0,hz,hbl⟩:=hrel;by_cases hlt:k<64
  ·have sw:=stt_w K X hs k;generalize hst:stt K X s k=st at hr sw;have c0:=hr.cell (show 0<8 by omega);have c1:=hr.cell (show 1<8 by omega);have c2:=hr.cell (show 2<8 by omega);have c3:=hr.cell (show 3<8 by omega);have c4:=hr.cell (show 4<8 by omega);have c5:=hr.cell (show 5<8 by omega);have c6:=hr.cell (show 6<8 by omega);have c7:=hr.cell (show 7<8 by omega);have cx:=hx0.cell hlt;have ck:wr.cell? (Ad 11 k)=some (U3 (K k)):=(hbl.cell (by exact hg)).trans (hK k hlt);have lk:(k:Int)<64:=by omega
   have w4:=sw 4;have w0:=sw 0;have Hst:Hid (stt K X s k=st):=hst;clear hst sw hK hs hg;go_wp2;go_quiet ((first|(go_at_call 281;exact Calls.quiet_of_same (S1_any _ _ w4))|(go_at_call 282;exact Calls.quiet_of_same (choose_any _ _ _ _))));go_wp2;go_quiet ((first|(go_at_call 283;refine (S0_any _ _ w0).mono ?_;rintro e w' ⟨rfl,rfl⟩;exact ⟨rfl,_,rfl⟩)|(go_at_call 284;refine (majority_any _ _ _ _).mono ?_;rintro e w' ⟨rfl,rfl⟩;exact ⟨rfl,_,rfl⟩)));go_wp2_with (refine wpList_store_row rfl 77 (.tmp 5) (.tmp 66) rfl (w.heap.size+3) _ rfl rfl _ _ hr ?hi ?ho ?h1 ?_)
   case hi=>exact info27
   case ho=>simp
   case h1=>exact one8 _ _ _ _ _ _ _ _
   go_wp2;go_roundw
   case rel=>
    refine ⟨k+1,by omega,by go_num,mix_rel1 Hst.out (hr.drewN _),(hs0.drewN _).setRowOther (by omega) _,(hx0.drewN _).setRowOther (by omega) _,(hz.drewN _).setRowOther (by omega) _,kn (Below.drewsN hbl _) (by omega) _⟩
   case measure=>simp [intOf];omega
  ·obtain rfl:k=64:=by omega
   have e64:RowIs wr (w.heap.size+3) 77 8 (addTo (stt K X s 64) s 0):=hr.congr fun j _=>by simp [addTo]
   generalize hae:stt K X s 64=a at e64;have Hae:Hid (stt K X s 64=a):=hae;clear hr hK hg hae;go_wp2
   go_loopw [68] (fun i wr=>∃ k:Nat,k≤8∧i=I6 k∧RowIs wr (w.heap.size+3) 77 8 (addTo a s k)∧RowIs wr w.heap.size 77 8 (fun j=>U3 (s j))∧RowIs wr (w.heap.size+2) 77 8 (fun _=>U3 0)∧Bel w wr)
    (fun i _=>8-(intOf i).toNat)
   case atStart=>exact ⟨0,by omega,rfl,e64,hs0,hz,hbl⟩
   case round=>
    clear hs0 hz hbl hx0 e64;obtain ⟨k,hk,rfl,hr,hs0,hz,hbl⟩:=hrel;by_cases hlt:k<8
    ·have c0:=(hr.cell hlt).trans (congrArg some (addTo_at a s k));have c1:=hs0.cell hlt;have f0:=hr.free k;have lk:(k:Int)<8:=by omega
     go_wp2;go_region;go_wp2;go_roundw
     case rel=>
      exact ⟨k+1,by omega,by go_num,mix_rel2 hr,(hs0.setOther (by show w.heap.size+1+1+1≠w.heap.size;omega) _).drew,(hz.setOther (by show w.heap.size+1+1+1≠w.heap.size+2;omega) _).drew,(hbl.setCell (by show w.heap.size≤w.heap.size+1+1+1;omega) _).drew⟩
     case measure=>simp [intOf];omega
    ·obtain rfl:k=8:=by omega
     go_wp2_with (first|(refine wpList_load_row rfl 77 (.tmp 5) rfl (w.heap.size+3) rfl _ _ (0,0) _ hr Tryz.underlying77 rfl info27 ?_)|(refine wpList_store_row rfl 77 (.tmp 4) (.tmp 80) rfl (w.heap.size+2) _ rfl rfl _ _ hz info27 rfl (ints_one _ _ _) ?_));refine bodyPost_ret (v:=.agg (rowOf 8 (addTo a s 8))) (results_cell_row Tryz.results254 _ _ (w.heap.size+2) 77 _ (0,0) _ rfl (hz.setRow _) Tryz.underlying77 rfl info27) rfl ⟨?_,kn hbl (by omega) _⟩;rw [← Hae.out,addTo_end];rfl
theorem RowIs.set8 {w:World} {t:TypeId} (h:RowIs w g t 8 f) (v:Nat→Value):RowIs ((((((((w.setCell (Ad g 0) (v 0)).setCell (Ad g 1) (v 1)).setCell (Ad g 2) (v 2)).setCell (Ad g 3) (v 3)).setCell (Ad g 4) (v 4)).setCell (Ad g 5) (v 5)).setCell (Ad g 6) (v 6)).setCell (Ad g 7) (v 7)) g t 8 v:=by
 refine ((((((((h.set 0 _).set 1 _).set 2 _).set 3 _).set 4 _).set 5 _).set 6 _).set 7 _).congr fun j hj=>?_
 match j,hj with
 | 0,_=>rfl
 | 1,_=>rfl
 | 2,_=>rfl
 | 3,_=>rfl
 | 4,_=>rfl
 | 5,_=>rfl
 | 6,_=>rfl
 | 7,_=>rfl
theorem RowIs.set8Other {w:World} {g':Nat} {t:TypeId} (h:RowIs w g t n f) (hg:g'≠g) (v:Nat→Value):RowIs ((((((((w.setCell ⟨g',0,none⟩ (v 0)).setCell ⟨g',1,none⟩ (v 1)).setCell ⟨g',2,none⟩ (v 2)).setCell ⟨g',3,none⟩ (v 3)).setCell ⟨g',4,none⟩ (v 4)).setCell ⟨g',5,none⟩ (v 5)).setCell ⟨g',6,none⟩ (v 6)).setCell ⟨g',7,none⟩ (v 7)) g t n f:=
 (((((((h.setOther hg _).setOther hg _).setOther hg _).setOther hg _).setOther hg _).setOther hg _).setOther hg _).setOther hg _
theorem below_set8 {a w:World} (h:Below B a w) (hg:B≤g) (v:Nat→Value):Below B a ((((((((w.setCell (Ad g 0) (v 0)).setCell (Ad g 1) (v 1)).setCell (Ad g 2) (v 2)).setCell (Ad g 3) (v 3)).setCell (Ad g 4) (v 4)).setCell (Ad g 5) (v 5)).setCell (Ad g 6) (v 6)).setCell (Ad g 7) (v 7)):=
 (((((((h.setCell hg _).setCell hg _).setCell hg _).setCell hg _).setCell hg _).setCell hg _).setCell hg _).setCell hg _
def blks (K m s:Nat→Int):Nat→Nat→Int
 | 0=>s
 | n+1=>blk K (sch fun i=>m (64*n+i)) (blks K m s n)
theorem blks_w (K m:Nat→Int) {s:Nat→Int} (h:∀ j,W32 (s j)) (n:Nat):∀ j,W32 (blks K m s n j):=by
 induction n with
 | zero=>exact h
 | succ n ih=>exact fun j=>blk_w _ _ _ j
theorem mixAll_rel {w:World} {K m s st:Nat→Int} (hst:blks K m s k=st) (h:RowIs w g 77 8 (fun j=>U3 (st j))) :
  RowIs ((((((((w.setCell (Ad g 0) (U3 (blk K (sch fun i=>m (64*k+i)) st 0))).setCell (Ad g 1) (U3 (blk K (sch fun i=>m (64*k+i)) st 1))).setCell (Ad g 2) (U3 (blk K (sch fun i=>m (64*k+i)) st 2))).setCell (Ad g 3) (U3 (blk K (sch fun i=>m (64*k+i)) st 3))).setCell (Ad g 4) (U3 (blk K (sch fun i=>m (64*k+i)) st 4))).setCell (Ad g 5) (U3 (blk K (sch fun i=>m (64*k+i)) st 5))).setCell (Ad g 6) (U3 (blk K (sch fun i=>m (64*k+i)) st 6))).setCell (Ad g 7) (U3 (blk K (sch fun i=>m (64*k+i)) st 7))) g 77 8 (fun j=>U3 (blks K m s (k+1) j)):=by
 subst hst;exact h.set8 (fun j=>U3 (blks K m s (k+1) j))
theorem mixAll_any (s K m:Nat→Int) (b off n cap:Nat) (w:World) (hg:11<w.heap.size) (hK:∀ j,j<64→w.cell? (Ad 11 j)=some (U3 (K j))) (hs:∀ j,W32 (s j))
  (hm:∀ i,0≤m i∧m i≤255) (hcell:∀ i,i<64*n→w.cell? ⟨b,off+i,none⟩=some (U8 (m i))) (hb:b<w.heap.size) (hn:64*n≤140737488355328) (hcap:64*n≤cap) :
  Cs 195 #[.agg #[U3 (s 0),U3 (s 1),U3 (s 2),U3 (s 3),U3 (s 4),U3 (s 5),U3 (s 6),U3 (s 7)],.slice (some (Ad b off)) (64*n) cap] w fun e w'=>e=.returned (.agg #[U3 (blks K m s n 0),U3 (blks K m s n 1),U3 (blks K m s n 2),U3 (blks K m s n 3),U3 (blks K m s n 4),U3 (blks K m s n 5),U3 (blks K m s n 6),U3 (blks K m s n 7)])∧Bel w w':=by
 go_enter Tryz.func195,Tryz.ntmps195;go_wp2
 go_loopw [5] (fun i wr=>∃ k:Nat,k≤n∧i=I6 ((64*k:Nat):Int)∧RowIs wr w.heap.size 77 8 (fun j=>U3 (blks K m s k j))∧RowIs wr (w.heap.size+1) 77 8 (fun _=>U3 0)∧Bel w wr)
  (fun i _=>64*n-(intOf i).toNat)
 case atStart=>exact ⟨0,by omega,rfl,RowIs.of (heap_alloc2_old _ _ _) rfl,RowIs.of (heap_alloc2_new _ _ _) rfl,((qj _ _).alloc (qb _) _).alloc (by simp) _⟩
 case round=>
  obtain ⟨k,hk,rfl,hr,hz,hbl⟩:=hrel;by_cases hlt:k<n
  ·have hsz:=hbl.size;have sw:=blks_w K m hs k;generalize hst:blks K m s k=st at hr sw;have c0:=hr.cell (show 0<8 by omega);have c1:=hr.cell (show 1<8 by omega);have c2:=hr.cell (show 2<8 by omega);have c3:=hr.cell (show 3<8 by omega);have c4:=hr.cell (show 4<8 by omega);have c5:=hr.cell (show 5<8 by omega);have c6:=hr.cell (show 6<8 by omega);have c7:=hr.cell (show 7<8 by omega);have Hst:Hid (blks K m s k=st):=hst;have t1:(64*(k:Int)).toNat=64*k:=by omega
   have t2:(64*(k:Int)+64).toNat=64*k+64:=by omega
   have t3:¬ cap=64*k:=by omega
   have t4:(0:Int)≤64*(k:Int):=by omega
   have t5:(64*(k:Int)+64)≤cap:=by omega
   have t6:64*(k:Int)≤64*(k:Int)+64:=by omega
   have t7:IntKind.i64.wrap (64*(k:Int)+64)=64*(k:Int)+64:=i64w _ (by omega);have t8:64*k+64-64*k=64:=by omega
   have hcx:∀ i,i<64→wr.cell? ⟨b,off+64*k+i,none⟩=some (U8 (m (64*k+i))):=fun i hi=>by rw [zu];exact (hbl.cell (by exact hb)).trans (hcell _ (by omega))
   have hgk:∀ j,j<64→wr.cell? (Ad 11 j)=some (U3 (K j)):=fun j hj=>(hbl.cell (by exact hg)).trans (hK j hj);have Hcx:Hid (∀ i,i<64→wr.cell? ⟨b,off+64*k+i,none⟩=some (U8 (m (64*k+i)))):=hcx;have Hgk:Hid (∀ j,j<64→wr.cell? (Ad 11 j)=some (U3 (K j))):=hgk;have Hhm:Hid (∀ i,0≤m i∧m i≤255):=hm;have hb':b<wr.heap.size:=by omega
   have hg':11<wr.heap.size:=by omega
   have hB:w.heap.size<wr.heap.size:=hr.lt;clear hst hcx hgk hcell hK hs hm;go_wp2;go_region_with (first|(go_at_call 255;refine (schedule_any b (off+64*k) 64 _ (fun i=>m (64*k+i)) _ ?_ ?_ ?_ ?_).mono ?_;exact Hcx.out;exact fun i=>Hhm.out _;exact qb _;exact hb';rintro e w1 ⟨rfl,hb1⟩;have d0:=(hb1.cell (p:=(Ad w.heap.size 0)) hB).trans c0;have d1:=(hb1.cell (p:=(Ad w.heap.size 1)) hB).trans c1;have d2:=(hb1.cell (p:=(Ad w.heap.size 2)) hB).trans c2;have d3:=(hb1.cell (p:=(Ad w.heap.size 3)) hB).trans c3;have d4:=(hb1.cell (p:=(Ad w.heap.size 4)) hB).trans c4;have d5:=(hb1.cell (p:=(Ad w.heap.size 5)) hB).trans c5;have d6:=(hb1.cell (p:=(Ad w.heap.size 6)) hB).trans c6;have d7:=(hb1.cell (p:=(Ad w.heap.size 7)) hB).trans c7)|(go_at_call 254;refine (mix_any st (sch fun i=>m (64*k+i)) K _ ?_ ?_ ?_).mono ?_;exact ql hg' hb1.size;exact fun j hj=>(hb1.cell hg').trans (Hgk.out j hj);exact sw;rintro e w2 ⟨rfl,hb2⟩;have r2:=(hr.drew.below hb1 hB).below hb2 (ql hB hb1.size);have z2:=(hz.drew.below hb1 hz.lt).below hb2 (ql hz.lt hb1.size);have b2:=(hbl.drew.trans (hb1.mono hsz)).trans (hb2.mono (qi hsz hb1.size));have e0:=r2.cell (show 0<8 by omega);have e1:=r2.cell (show 1<8 by omega);have e2:=r2.cell (show 2<8 by omega);have e3:=r2.cell (show 3<8 by omega);have e4:=r2.cell (show 4<8 by omega);have e5:=r2.cell (show 5<8 by omega);have e6:=r2.cell (show 6<8 by omega);have e7:=r2.cell (show 7<8 by omega);have f2:=r2.free))
   all_goals go_wp2
   all_goals go_roundw
   all_goals first
    | exact ⟨k+1,by omega,by go_num,mixAll_rel Hst.out (by assumption),RowIs.set8Other (by assumption) (by omega) (fun j=>U3 (blk K (sch fun i=>m (64*k+i)) st j)),below_set8 (by assumption) (qb _) (fun j=>U3 (blk K (sch fun i=>m (64*k+i)) st j))⟩
    | (simp [intOf];omega)
  ·obtain rfl:k=n:=by omega
   go_wp2_with (first|(refine wpList_load_row rfl 77 (.tmp 2) rfl w.heap.size rfl _ _ (0,0) _ hr Tryz.underlying77 rfl info27 ?_)|(refine wpList_store_row rfl 77 (.tmp 4) (.tmp 20) rfl (w.heap.size+1) _ rfl rfl _ _ hz info27 rfl (ints_one _ _ _) ?_));refine bodyPost_ret (v:=.agg (rowOf 8 fun j=>U3 (blks K m s k j))) (results_cell_row Tryz.results195 _ _ (w.heap.size+1) 77 _ (0,0) _ rfl (hz.setRow _) Tryz.underlying77 rfl info27) rfl ⟨rfl,kn hbl (by omega) _⟩
def u8s (l:List Int):List Value:=l.map (Value.int .u8)
@[simp] theorem u8s_length (l:List Int):(u8s l).length=l.length:=by simp [u8s]
theorem xh (a b:List Int):u8s (a++b)=u8s a++u8s b:=by simp [u8s]
theorem xq (l:List Int):∀ u∈u8s l,u.oneCell'=true:=by intro u hu;simp [u8s] at hu;obtain ⟨a,_,rfl⟩:=hu;rfl
def zer (n:Nat):Nat:=(119-n % 64) % 64
def be8 (n:Int) (k:Nat):List Int:=(List.range k).map fun j=>n / 2 ^ (56-8*j) % 256
theorem be8_succ (n:Int) (k:Nat):be8 n (k+1)=be8 n k++[n / 2 ^ (56-8*k) % 256]:=by simp [be8,List.range_succ]
@[simp] theorem be8_length (n:Int) (k:Nat):(be8 n k).length=k:=by simp [be8]
theorem info5:(Tryz.prog.info? 5).map (fun i=>(i.zero,i.size,i.bytes))=some (some (U8 0),1,1):=by kernel_rfl
def pre (l:List Int) (z:Nat):List Int:=l++[128]++List.replicate z 0
@[simp] theorem pre_length (l:List Int) (z:Nat):(pre l z).length=l.length+1+z:=by simp [pre];omega
theorem pre_succ (l:List Int) (z:Nat):pre l (z+1)=pre l z++[0]:=by simp [pre,List.replicate_succ']
theorem zer_facts (L:Nat):56≤(L+1+zer L) % 64∧(L+1+zer L) % 64≤56∧zer L<64:=by unfold zer;omega
def lenOf:Value→Nat
 | .slice _ n _=>n
 | _=>0
theorem tail_any (b off cap:Nat) (l:List Int) (N:Nat) (w:World) (hl:l.length<64) (hN:N≤140737488355328)
  (hcell:∀ j u,(u8s l)[j]?=some u→w.cell? (((Ad b off):Addr).add j)=some u) :
  Cs 197 #[.slice (some (Ad b off)) l.length cap,I6 N] w fun e w'=>e=.returned (.slice (some (Ad w.heap.size 0)) (l.length+1+zer l.length+8) 128) ∧
   w'.ownsRow w.heap.size 5 1 (.slice (some (Ad w.heap.size 0)) (l.length+1+zer l.length+8) 128) (l.length+1+zer l.length+8) (u8s (pre l (zer l.length)++be8 (N*8) 8))∧Bel w w':=by
 obtain ⟨i0,hi,hz0,hz1,hz2⟩:=info_parts info5;have Hc:Hid (∀ j u,(u8s l)[j]?=some u→w.cell? (((Ad b off):Addr).add j)=some u):=hcell;have hz2':i0.bytes*128≤281474976710656:=by rw [hz2];omega
 clear hcell;generalize hL:l.length=L at *;have HL:Hid (l.length=L):=hL;clear hL;obtain ⟨hZ1,hZ2,hZ3⟩:=zer_facts L;generalize zer L=Z at *;go_enter Tryz.func197,Tryz.ntmps197;have hcl:∀ w1,Bel w w1→∀ j u,(u8s l)[j]?=some u→w1.cell? (((Ad b off):Addr).add j)=some u:=fun w1 hb1 j u h=>cell_later hb1 (Hc.out j u h);have Hcl:Hid (∀ w1,Bel w w1→∀ j u,(u8s l)[j]?=some u→w1.cell? (((Ad b off):Addr).add j)=some u):=hcl;clear hcl
 go_wp2_with (first
  | (at_make;refine wpList_make_own _ rfl _ _ 59 rfl w.heap.size 5 i0 (U8 0) 1 Tryz.underlying59 hi hz0 hz1 .i64 .i64 128 128 rfl rfl rfl hz2' (by unfold maxLen;omega) (qb _) ?_;intro w1 hown1 hgr1;have hb1:=(qj w.heap.size w).grown hgr1 (qb _) (by simp))
  | (at_builtin;refine wpList_append_fits _ rfl (.tmp 9) (.tmp 10) 59 rfl w.heap.size 5 i0 1 Tryz.underlying59 hi hz1 w.heap.size 0 128 [] rfl hown1 (Ad b off) L cap (u8s l) rfl (by simp [HL.out]) (Hcl.out _ hb1) (xq l) (by omega) ?_;intro w2 hown2 hgr2;simp only [q9,zw] at hown2;have hb2:=hb1.grown hgr2 hb1.size (by simp))
  | (at_builtin;refine wpList_append_fits _ rfl (.tmp 12) (.tmp 13) 59 rfl w.heap.size 5 i0 1 Tryz.underlying59 hi hz1 w.heap.size L 128 (u8s l) rfl (hown2.alloc _) (Ad w2.heap.size 0) 1 1 (u8s [128]) rfl rfl (cell_one_new _ _ _) (xq _) (by omega) ?_;intro w3 hown3 hgr3;have hb3:=(hb2.alloc hb2.size _).grown hgr3 (qi hb2.size (by simp)) (by simp)))
 have hown3':w3.ownsRow w.heap.size 5 1 (.slice (some (Ad w.heap.size 0)) (L+1) 128) (L+1) (u8s (pre l 0)):=by simpa [pre,xh] using hown3
 clear hown3 hgr3 hown2 hgr2 hown1 hgr1
 go_loopw [5] (fun t wr=>∃ z:Nat,z≤Z∧t=.slice (some (Ad w.heap.size 0)) (L+1+z) 128∧wr.ownsRow w.heap.size 5 1 (.slice (some (Ad w.heap.size 0)) (L+1+z) 128) (L+1+z) (u8s (pre l z))∧Bel w wr)
  (fun t _=>128-lenOf t)
 case atStart=>exact ⟨0,qs _,rfl,hown3',hb3⟩
 case round=>
  clear hown3' hb1 hb2 hb3;obtain ⟨z,hz,rfl,hown,hbl⟩:=hrel;by_cases hlt:z<Z
  ·go_wp2_with (at_builtin;refine wpList_append_fits _ rfl (.tmp 19) (.tmp 20) 59 rfl w.heap.size 5 i0 1 Tryz.underlying59 hi hz1 w.heap.size (L+1+z) 128 (u8s (pre l z)) rfl (hown.alloc _) (Ad wr.heap.size 0) 1 1 (u8s [0]) rfl rfl (cell_one_new _ _ _) (xq _) (by omega) ?_;intro w4 hown4 hgr4;have hb4:=(hbl.alloc hbl.size _).grown hgr4 (qi hbl.size (by simp)) (by simp));go_roundw
   case rel=>exact ⟨z+1,hlt,rfl,by rw [pre_succ,xh];exact hown4,hb4⟩
   case measure=>simp [lenOf];omega
  ·obtain rfl:z=Z:=by omega
   have hb18:(((L:Int)+1+(z:Int)) % 64 != 56)=false:=by simp;omega
   go_wp2
   go_loopw [5,7] (fun t sh wr=>∃ k:Nat,k≤8∧sh=I6 (56-8*(k:Int))∧t=.slice (some (Ad w.heap.size 0)) (L+1+z+k) 128∧wr.ownsRow w.heap.size 5 1 (.slice (some (Ad w.heap.size 0)) (L+1+z+k) 128) (L+1+z+k) (u8s (pre l z++be8 (N*8) k))∧Bel w wr)
    (fun t _ _=>140-lenOf t)
   case atStart=>exact ⟨0,qs _,rfl,rfl,by simpa [be8] using hown,hbl⟩
   case round=>
    clear hown hbl;obtain ⟨k,hk,rfl,rfl,hown,hbl⟩:=hrel;by_cases hlt:k<8
    ·go_wp2_with (at_builtin;refine wpList_append_fits _ rfl (.tmp 29) (.tmp 34) 59 rfl w.heap.size 5 i0 1 Tryz.underlying59 hi hz1 w.heap.size (L+1+z+k) 128 (u8s (pre l z++be8 (N*8) k)) rfl (hown.alloc _) (Ad wr.heap.size 0) 1 1 (u8s [N*8 / 2 ^ (56-8*k) % 256]) rfl rfl (cell_one_new _ _ _) (xq _) (by omega) ?_;intro w4 hown4 hgr4;have hb4:=(hbl.alloc hbl.size _).grown hgr4 (qi hbl.size (by simp)) (by simp));go_roundw
     case rel=>exact ⟨k+1,hlt,by go_num,rfl,by rw [be8_succ,← qr,xh];exact hown4,hb4⟩
     case measure=>simp [lenOf];omega
    ·obtain rfl:k=8:=by omega
     go_wp2;go_ret;exact ⟨rfl,hown,hbl⟩
theorem info90:(Tryz.prog.info? 137).map (·.size)=some 32:=by kernel_rfl
def outB (s:Nat→Int) (n:Nat):Int:=s (n / 4) / 2 ^ (24-8*(n % 4)) % 256
def spTo (s:Nat→Int) (c n:Nat):Value:=U8 (if n<c then outB s n else 0)
theorem spTo_step (s:Nat→Int) (k j:Nat):(if j=k then U8 (outB s k) else spTo s k j)=spTo s (k+1) j:=by
 unfold spTo;by_cases h:j=k
 ·subst h;simp
 ·by_cases h':j<k
  ·simp [h,h',show j<k+1 by omega]
  ·simp [h,h',show ¬ j<k+1 by omega]
theorem sp_start (s:Nat→Int):#[U8 0,U8 0,U8 0,U8 0,U8 0,U8 0,U8 0,U8 0,U8 0,U8 0,U8 0,U8 0,U8 0,U8 0,U8 0,U8 0,U8 0,U8 0,U8 0,U8 0,U8 0,U8 0,U8 0,U8 0,U8 0,U8 0,U8 0,U8 0,U8 0,U8 0,U8 0,U8 0]=rowOf 32 (spTo s 0):=by
 have:rowOf 32 (fun _=>U8 0)=rowOf 32 (spTo s 0):=xv fun j _=>by simp [spTo]
 rw [← this];rfl
theorem index8_0 (s:Nat→Int) (w:World):(Instr.index 77 (.agg #[U3 (s 0),U3 (s 1),U3 (s 2),U3 (s 3),U3 (s 4),U3 (s 5),U3 (s 6),U3 (s 7)]) (I6 0)).run Tryz.prog w=.ok (U3 (s 0)) w:=by kernel_rfl
theorem index8_1 (s:Nat→Int) (w:World):(Instr.index 77 (.agg #[U3 (s 0),U3 (s 1),U3 (s 2),U3 (s 3),U3 (s 4),U3 (s 5),U3 (s 6),U3 (s 7)]) (I6 1)).run Tryz.prog w=.ok (U3 (s 1)) w:=by kernel_rfl
theorem index8_2 (s:Nat→Int) (w:World):(Instr.index 77 (.agg #[U3 (s 0),U3 (s 1),U3 (s 2),U3 (s 3),U3 (s 4),U3 (s 5),U3 (s 6),U3 (s 7)]) (I6 2)).run Tryz.prog w=.ok (U3 (s 2)) w:=by kernel_rfl
theorem index8_3 (s:Nat→Int) (w:World):(Instr.index 77 (.agg #[U3 (s 0),U3 (s 1),U3 (s 2),U3 (s 3),U3 (s 4),U3 (s 5),U3 (s 6),U3 (s 7)]) (I6 3)).run Tryz.prog w=.ok (U3 (s 3)) w:=by kernel_rfl
theorem index8_4 (s:Nat→Int) (w:World):(Instr.index 77 (.agg #[U3 (s 0),U3 (s 1),U3 (s 2),U3 (s 3),U3 (s 4),U3 (s 5),U3 (s 6),U3 (s 7)]) (I6 4)).run Tryz.prog w=.ok (U3 (s 4)) w:=by kernel_rfl
theorem index8_5 (s:Nat→Int) (w:World):(Instr.index 77 (.agg #[U3 (s 0),U3 (s 1),U3 (s 2),U3 (s 3),U3 (s 4),U3 (s 5),U3 (s 6),U3 (s 7)]) (I6 5)).run Tryz.prog w=.ok (U3 (s 5)) w:=by kernel_rfl
theorem index8_6 (s:Nat→Int) (w:World):(Instr.index 77 (.agg #[U3 (s 0),U3 (s 1),U3 (s 2),U3 (s 3),U3 (s 4),U3 (s 5),U3 (s 6),U3 (s 7)]) (I6 6)).run Tryz.prog w=.ok (U3 (s 6)) w:=by kernel_rfl
theorem index8_7 (s:Nat→Int) (w:World):(Instr.index 77 (.agg #[U3 (s 0),U3 (s 1),U3 (s 2),U3 (s 3),U3 (s 4),U3 (s 5),U3 (s 6),U3 (s 7)]) (I6 7)).run Tryz.prog w=.ok (U3 (s 7)) w:=by kernel_rfl
theorem index8 (s:Nat→Int) (i:Nat) (hi:i<8) (w:World):(Instr.index 77 (.agg #[U3 (s 0),U3 (s 1),U3 (s 2),U3 (s 3),U3 (s 4),U3 (s 5),U3 (s 6),U3 (s 7)]) (I6 (i:Int))).run Tryz.prog w=.ok (U3 (s i)) w:=by
 have h:i=0∨i=1∨i=2∨i=3∨i=4∨i=5∨i=6∨i=7:=by omega
 rcases h with rfl|rfl|rfl|rfl|rfl|rfl|rfl|rfl
 ·exact index8_0 s w
 ·exact index8_1 s w
 ·exact index8_2 s w
 ·exact index8_3 s w
 ·exact index8_4 s w
 ·exact index8_5 s w
 ·exact index8_6 s w
 ·exact index8_7 s w
theorem sp_rel {s:Nat→Int} {i j:Nat} (hj:j<4) (hr:RowIs wr g 137 32 (spTo s (4*i+j))) :
  RowIs (wr.setCell ⟨g,4*i+j,none⟩ (U8 (s i / 2 ^ (24-8*j) % 256))) g 137 32 (spTo s (4*i+(j+1))):=by
 refine (hr.set (4*i+j) _).congr fun n _=>?_;rw [← zu,← spTo_step s (4*i+j) n]
 have e:outB s (4*i+j)=s i / 2 ^ (24-8*j) % 256:=by
  unfold outB;rw [show (4*i+j) / 4=i by omega,show (4*i+j) % 4=j by omega]
 rw [e]
theorem sp_end (s:Nat→Int):rowOf 32 (spTo s 32)=rowOf 32 (fun n=>U8 (outB s n)):=xv fun n hn=>by simp [spTo,hn]
theorem rows3 (w:World) (A B C:Obj):let w4:=((w.alloc A).alloc B).alloc C
  w4.heap[w.heap.size]?=some A∧w4.heap[w.heap.size+1]?=some B∧w4.heap[w.heap.size+1+1]?=some C∧Bel w w4:=by
 intro w4;refine ⟨?_,?_,heap_last (by simp),?_⟩
 ·rw [show w4.heap[w.heap.size]?=_ from xw (by simp<;>omega),xw (by simp)];exact heap_last rfl
 ·rw [show w4.heap[w.heap.size+1]?=_ from xw (by simp)];exact heap_last (by simp)
 ·exact (((qj _ _).alloc (qb _) _).alloc (by simp) _).alloc (by simp<;>omega) _
theorem spread_any (s:Nat→Int) (w:World) (hs:∀ j,W32 (s j)) :
  Cs 198 #[.agg #[U3 (s 0),U3 (s 1),U3 (s 2),U3 (s 3),U3 (s 4),U3 (s 5),U3 (s 6),U3 (s 7)]] w fun e w'=>e=.returned (.agg (rowOf 32 fun n=>U8 (outB s n)))∧Bel w w':=by
 go_enter Tryz.func198,Tryz.ntmps198;go_wp2
 go_loopw [8] (fun i wr=>∃ k:Nat,k≤8∧i=I6 k∧RowIs wr (w.heap.size+2) 137 32 (spTo s (4*k))∧RowIs wr (w.heap.size+1) 137 32 (spTo s 0)∧Bel w wr)
  (fun i _=>8-(intOf i).toNat)
 case atStart=>
  obtain ⟨r1,r2,r3,r4⟩:=rows3 w (.cells #[U3 (s 0),U3 (s 1),U3 (s 2),U3 (s 3),U3 (s 4),U3 (s 5),U3 (s 6),U3 (s 7)] 77) (.cells #[U8 0,U8 0,U8 0,U8 0,U8 0,U8 0,U8 0,U8 0,U8 0,U8 0,U8 0,U8 0,U8 0,U8 0,U8 0,U8 0,U8 0,U8 0,U8 0,U8 0,U8 0,U8 0,U8 0,U8 0,U8 0,U8 0,U8 0,U8 0,U8 0,U8 0,U8 0,U8 0] 137) (.cells #[U8 0,U8 0,U8 0,U8 0,U8 0,U8 0,U8 0,U8 0,U8 0,U8 0,U8 0,U8 0,U8 0,U8 0,U8 0,U8 0,U8 0,U8 0,U8 0,U8 0,U8 0,U8 0,U8 0,U8 0,U8 0,U8 0,U8 0,U8 0,U8 0,U8 0,U8 0,U8 0] 137);exact ⟨0,by omega,rfl,RowIs.of r3 (sp_start s),RowIs.of r2 (sp_start s),r4⟩
 case round=>
  obtain ⟨k,hk,rfl,hr,hz,hbl⟩:=hrel;by_cases hlt:k<8
  ·have hix:=index8 s k hlt;obtain ⟨w0,w1⟩:=hs k;clear hs;go_wp2
   go_loopw [12] (fun i wr=>∃ j:Nat,j≤4∧i=I6 j∧RowIs wr (w.heap.size+2) 137 32 (spTo s (4*k+j))∧RowIs wr (w.heap.size+1) 137 32 (spTo s 0)∧Bel w wr)
    (fun i _=>4-(intOf i).toNat)
   case atStart=>exact ⟨0,by omega,rfl,hr,hz,hbl⟩
   case round=>
    clear hr hz hbl;obtain ⟨j,hj,rfl,hr,hz,hbl⟩:=hrel;by_cases hjt:j<4
    ·have c0:=hr.cell (show 4*k+j<32 by omega);have f0:=hr.free (4*k+j);go_wp2;go_roundw
     case rel=>
      exact ⟨j+1,by omega,by go_num,sp_rel hjt hr,hz.setOther (by show w.heap.size+1+1≠w.heap.size+1;omega) _,hbl.setCell (by show w.heap.size≤w.heap.size+1+1;omega) _⟩
     case measure=>simp [intOf];omega
    ·obtain rfl:j=4:=by omega
     go_wp2;go_roundw
     case rel=>exact ⟨k+1,by omega,by go_num,hr,hz,hbl⟩
     case measure=>simp [intOf];omega
  ·obtain rfl:k=8:=by omega
   go_wp2_with (first|(refine wpList_load_row rfl 137 (.tmp 3) rfl (w.heap.size+2) rfl _ _ (0,0) _ hr Tryz.underlying137 rfl (by rw [rowOf_size];exact info90) ?_)|(refine wpList_store_row rfl 137 (.tmp 2) (.tmp 28) rfl (w.heap.size+1) _ rfl rfl _ _ hz (by rw [rowOf_size];exact info90) (by rw [rowOf_size,rowOf_size]) (ints_one _ _ _) ?_));refine bodyPost_ret (v:=.agg (rowOf 32 (spTo s 32))) (results_cell_row Tryz.results198 _ _ (w.heap.size+1) 137 _ (0,0) _ rfl (hz.setRow _) Tryz.underlying137 rfl (by rw [rowOf_size];exact info90)) rfl ⟨?_,kn hbl (by omega) _⟩;rw [sp_end]

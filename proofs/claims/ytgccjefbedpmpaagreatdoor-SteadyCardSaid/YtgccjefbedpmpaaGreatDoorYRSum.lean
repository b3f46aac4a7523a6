import Derived.Test.YtgccjefbedpmpaaGreatDoorYRoots
import Derived.Test.YtgccjefbedpmpaaGreatDoorYFam
import Derived.Lib.Strings
namespace Go.Proofs.YtgccjefbedpmpaaGreatDoor
open Go.RowKit
set_option maxRecDepth 100000
set_option maxHeartbeats 8000000
def szOf:Value→Nat
 | .string b=>b.size
 | _=>0
def padZ (s:ByteArray):Nat→ByteArray
 | 0=>s++⟨#[128]⟩
 | z+1=>padZ s z++⟨#[0]⟩
theorem padZ_size (s:ByteArray) (z:Nat):(padZ s z).size=s.size+1+z:=by
 induction z with
 | zero=>rw [padZ,ByteArray.size_append];rfl
 | succ z ih=>rw [padZ,ByteArray.size_append,ih];rfl
theorem conv_one (v:Int) (W:World):(convert 59 9 (.slice (some ⟨W.heap.size,0,none⟩) 1 1)).run Tryz.prog (W.alloc (.cells #[.int .u8 v] 5))=.ok (.string (strOfNums [v])) (W.alloc (.cells #[.int .u8 v] 5)):=
 run_convert_bytes_arg _ 59 5 Tryz.underlying59 Tryz.underlying5 W.heap.size 0 1 1 [v] rfl (fun i hi=>by
  obtain rfl:i=0:=by omega
  rw [cell_of_row _ _ _ _ _ _ (heap_alloc_new _ _)];rfl) _ Tryz.underlying9
def padN (P:ByteArray) (n:Int):Nat→ByteArray
 | 0=>P
 | k+1=>padN P n k++strOfNums [n / 2 ^ (56-8*k) % 256]
theorem padN_size (P:ByteArray) (n:Int) (k:Nat):(padN P n k).size=P.size+k:=by
 induction k with
 | zero=>rfl
 | succ k ih=>rw [padN,ByteArray.size_append,ih,strOfNums_size];rfl
theorem RV8:(fun k=>RV (8+k))=KK:=by
 funext k;unfold RV;rw [if_neg (by omega)];congr 1;omega
theorem RV_w (j:Nat):W32 (RV j):=by unfold RV;split;exact H0_w j;exact KK_w _
theorem block_KK (s:Nat→Int) (m:ByteArray) (hm:m.size=64) (hsw:∀ j,W32 (s j)) (w:World) :
  Calls Tryz.prog 205 #[.agg (rowOf 72 fun j=>.int .u32 (RV j)),.agg #[.int .u32 (s 0),.int .u32 (s 1),.int .u32 (s 2),.int .u32 (s 3),.int .u32 (s 4),.int .u32 (s 5),.int .u32 (s 6),.int .u32 (s 7)],.string m] w fun e w'=>e=.returned (.agg #[.int .u32 (blk KK (sch (mB m)) s 0),.int .u32 (blk KK (sch (mB m)) s 1),.int .u32 (blk KK (sch (mB m)) s 2),.int .u32 (blk KK (sch (mB m)) s 3),.int .u32 (blk KK (sch (mB m)) s 4),.int .u32 (blk KK (sch (mB m)) s 5),.int .u32 (blk KK (sch (mB m)) s 6),.int .u32 (blk KK (sch (mB m)) s 7)])∧Below w.heap.size w w':=by
 have h:=block_any s RV m hm hsw w
 rw [show (fun k=>RV (8+k))=KK from RV8] at h
 exact h
theorem range72 {w:World} {g:Nat} (h:RowIs w g 80 72 (fun j=>.int .u32 (RV j))):w.rangeAt g 0 (rowOf 72 fun j=>.int .u32 (RV j)).toList:=by
 intro j v hj
 rw [Nat.zero_add,cell_of_row _ _ _ _ _ _ h,← Array.getElem?_toList];exact hj
theorem sch_congr {m m':Nat→Int} (h:∀ i,i<64→m i=m' i) (t:Nat):sch m t=sch m' t:=by
 induction t using Nat.strongRecOn with
 | _ t ih=>
  by_cases ht:t<16
  ·rw [sch_lt m ht,sch_lt m' ht];unfold wd0
   rw [h (4*t) (by omega),h (4*t+1) (by omega),h (4*t+2) (by omega),h (4*t+3) (by omega)]
  ·rw [sch_ge m (by omega),sch_ge m' (by omega),ih (t-2) (by omega),ih (t-7) (by omega),ih (t-15) (by omega),ih (t-16) (by omega)]
theorem mB_extract (M:ByteArray) (a i:Nat) (hi:i<64):mB (M.extract a (a+64)) i=mB M (a+i):=by
 unfold mB
 rw [Lib.extract_data,List.getElem?_take_of_lt (by omega),List.getElem?_drop]
theorem sch_extract (M:ByteArray) (k:Nat):sch (mB (M.extract (64*k) (64*k+64)))=sch fun i=>mB M (64*k+i):=by
 funext t;exact sch_congr (fun i hi=>mB_extract M (64*k) i hi) t
theorem rsum_rel {w:World} {g k:Nat} {M:ByteArray} {st:Nat→Int} (hst:blks KK (mB M) RV k=st) (h:RowIs w g 77 8 (fun j=>.int .u32 (st j))) :
  RowIs ((((((((w.setCell ⟨g,0,none⟩ (.int .u32 (blk KK (sch (mB (M.extract (64*k) (64*k+64)))) st 0))).setCell ⟨g,1,none⟩ (.int .u32 (blk KK (sch (mB (M.extract (64*k) (64*k+64)))) st 1))).setCell ⟨g,2,none⟩ (.int .u32 (blk KK (sch (mB (M.extract (64*k) (64*k+64)))) st 2))).setCell ⟨g,3,none⟩ (.int .u32 (blk KK (sch (mB (M.extract (64*k) (64*k+64)))) st 3))).setCell ⟨g,4,none⟩ (.int .u32 (blk KK (sch (mB (M.extract (64*k) (64*k+64)))) st 4))).setCell ⟨g,5,none⟩ (.int .u32 (blk KK (sch (mB (M.extract (64*k) (64*k+64)))) st 5))).setCell ⟨g,6,none⟩ (.int .u32 (blk KK (sch (mB (M.extract (64*k) (64*k+64)))) st 6))).setCell ⟨g,7,none⟩ (.int .u32 (blk KK (sch (mB (M.extract (64*k) (64*k+64)))) st 7))) g 77 8 (fun j=>.int .u32 (blks KK (mB M) RV (k+1) j)):=by
 subst hst
 rw [sch_extract]
 exact h.set8 (fun j=>.int .u32 (blks KK (mB M) RV (k+1) j))
def outL (h:Nat→Int) (k:Nat):List Int:=(List.range k).map (outB h)
theorem outL_four (h:Nat→Int) (k:Nat):outL h (4*(k+1))=outL h (4*k)++[h k / 16777216 % 256,h k / 65536 % 256,h k / 256 % 256,h k % 256]:=by
 have e:∀ j,j<4→outB h (4*k+j)=h k / 2 ^ (24-8*j) % 256:=fun j hj=>by
  unfold outB;rw [show (4*k+j) / 4=k by omega,show (4*k+j) % 4=j by omega]
 have e0:=e 0 (by omega)
 have e1:=e 1 (by omega)
 have e2:=e 2 (by omega)
 have e3:=e 3 (by omega)
 simp only [Nat.add_zero] at e0
 unfold outL
 rw [show 4*(k+1)=4*k+1+1+1+1 by omega,List.range_succ,List.range_succ,List.range_succ,List.range_succ]
 simp only [List.map_append,List.map_cons,List.map_nil,List.append_assoc,List.cons_append,List.nil_append]
 rw [e0,show 4*k+1+1=4*k+2 by omega,show 4*k+2+1=4*k+3 by omega,e1,e2,e3]
 simp
def padM (s:ByteArray):ByteArray:=padN (padZ s (zer s.size)) ((s.size:Int)*8) 8
def nblk (S:Nat):Nat:=(S+1+zer S+8) / 64
def rsumOf (s:ByteArray):ByteArray:=strOfNums (outL (blks KK (mB (padM s)) RV (nblk s.size)) 32)
set_option linter.unusedSimpArgs false in
theorem rsum_any (s:ByteArray) (hs:s.size≤140737488355328) (w:World) :
  Calls Tryz.prog 125 #[.agg (rowOf 72 fun j=>.int .u32 (RV j)),.string s] w fun e w'=>e=.returned (.string (rsumOf s))∧Below w.heap.size w w':=by
 obtain ⟨hZ1,hZ2,hZ3⟩:=zer_facts s.size
 have hadd:=@run_string_add_sum Tryz.prog
 have hend:∀ M n,padN (padZ s (zer s.size)) ((s.size:Int)*8) 8=M→(s.size+1+zer s.size+8=64*n)→rsumOf s=strOfNums (outL (blks KK (mB M) RV n) 32):=fun M n hM hn=>by
  unfold rsumOf padM nblk;rw [hM,hn,Nat.mul_div_cancel_left _ (by omega)]
 have Hend:Hid (∀ M n,padN (padZ s (zer s.size)) ((s.size:Int)*8) 8=M→(s.size+1+zer s.size+8=64*n)→rsumOf s=strOfNums (outL (blks KK (mB M) RV n) 32)):=hend
 clear hend
 generalize hS:s.size=S at *
 generalize zer S=Z at *
 generalize hRS:rsumOf s=RS at *
 go_enter Tryz.func125,Tryz.ntmps125
 go_wp2
 go_loop [5] (fun v=>∃ z:Nat,z≤Z∧v=.string (padZ s z)) (fun v=>S+70-szOf v)
 case atStart=>exact ⟨0,Nat.zero_le _,rfl⟩
 case round=>
  obtain ⟨z,hz,rfl⟩:=hrel
  have hps:(padZ s z).size=S+1+z:=by rw [padZ_size,hS]
  have hpe:padZ s z++⟨#[0]⟩=padZ s (z+1):=rfl
  have hps2:(padZ s (z+1)).size=S+1+(z+1):=by rw [padZ_size,hS]
  have HP:Hid ((padZ s (z+1)).size=S+1+(z+1)):=hps2
  clear hps2
  by_cases hlt:z<Z
  ·go_wp2
   go_round
   case rel=>exact ⟨z+1,hlt,rfl⟩
   case measure=>simp [szOf,hps,HP.out];omega
  ·obtain rfl:z=Z:=by omega
   have hb:(((S:Int)+1+(z:Int)) % 64 != 56)=false:=by simp;omega
   go_wp2
   generalize hP:padZ s z=P at hps
   have Hps:Hid (P.size=S+1+z):=hps
   have HPP:Hid (padZ s z=P):=hP
   clear hP hpe HP
   have hPs:P.size≤S+1+z:=by omega
   have hPs2:S+1+z≤P.size:=by omega
   clear hps
   have hcv:=conv_one
   go_loopw [5,7] (fun v sh wr=>∃ k:Nat,k≤8∧sh=.int .i64 (56-8*(k:Int))∧v=.string (padN P (S*8) k)∧RowIs wr w.heap.size 80 72 (fun j=>.int .u32 (RV j))∧Below w.heap.size w wr)
    (fun _ sh _=>(intOf sh+8).toNat)
   case atStart=>exact ⟨0,by omega,rfl,rfl,RowIs.new _ _ _ _,(Below.refl _ _).alloc (Nat.le_refl _) _⟩
   case round=>
    obtain ⟨k,hk,rfl,rfl,hR,hbl⟩:=hrel
    have hns:(padN P (S*8) k).size≤P.size+8:=by rw [padN_size];omega
    by_cases hlt:k<8
    ·have hnext:padN P (S*8) (k+1)=padN P (S*8) k++strOfNums [S*8 / 2 ^ (56-8*k) % 256]:=rfl
     have Hn:Hid (padN P (S*8) (k+1)=padN P (S*8) k++strOfNums [S*8 / 2 ^ (56-8*k) % 256]):=hnext
     have h1s:=strOfNums_size [(S:Int)*8 / 2 ^ (56-8*k) % 256]
     clear hnext
     go_wp2
     go_roundw
     case rel=>exact ⟨k+1,hlt,by go_num,rfl,hR.alloc _,hbl.alloc hbl.size _⟩
     case measure=>simp [intOf];omega
    ·obtain rfl:k=8:=by omega
     clear hcv
     obtain ⟨n,hn⟩:∃ n,S+1+z+8=64*n:=⟨(S+1+z+8) / 64,by omega⟩
     have hMs:(padN P (S*8) 8).size=64*n:=by rw [padN_size,Hps.out];omega
     generalize hM:padN P (S*8) 8=M at hMs
     have HM:Hid (padN P (S*8) 8=M):=hM
     have HMs:Hid (M.size=64*n):=hMs
     have hM1:M.size≤64*n:=by omega
     have hM2:64*n≤M.size:=by omega
     have Hn:Hid (S+1+z+8=64*n):=hn
     have hn1:64*n≤S+80:=by omega
     clear hM hMs hn hns hZ1 hZ2
     have c0:=hR.cell (show 0<72 by omega)
     have c1:=hR.cell (show 1<72 by omega)
     have c2:=hR.cell (show 2<72 by omega)
     have c3:=hR.cell (show 3<72 by omega)
     have c4:=hR.cell (show 4<72 by omega)
     have c5:=hR.cell (show 5<72 by omega)
     have c6:=hR.cell (show 6<72 by omega)
     have c7:=hR.cell (show 7<72 by omega)
     obtain ⟨wb,rfl⟩:∃ x,x=wr:=⟨_,rfl⟩
     go_wp2
     clear c0 c1 c2 c3 c4 c5 c6 c7
     go_loopw [9] (fun i wr=>∃ k:Nat,k≤n∧i=.int .i64 ((64*k:Nat):Int)∧RowIs wr wb.heap.size 77 8 (fun j=>.int .u32 (blks KK (mB M) RV k j))∧Below wb.heap.size wb wr)
      (fun i _=>64*n-(intOf i).toNat)
     case atStart=>exact ⟨0,by omega,rfl,RowIs.last rfl rfl,(Below.refl _ _).alloc (Nat.le_refl _) _⟩
     case round=>
      obtain ⟨k,hk,rfl,hr,hb2⟩:=hrel
      by_cases hlt:k<n
      ·have hR2:=hR.below hb2 hR.lt
       have hgl:=hr.lt
       have sw:=blks_w KK (mB M) RV_w k
       generalize hst:blks KK (mB M) RV k=st at hr sw
       have Hst:Hid (blks KK (mB M) RV k=st):=hst
       clear hst
       have c0:=hr.cell (show 0<8 by omega)
       have c1:=hr.cell (show 1<8 by omega)
       have c2:=hr.cell (show 2<8 by omega)
       have c3:=hr.cell (show 3<8 by omega)
       have c4:=hr.cell (show 4<8 by omega)
       have c5:=hr.cell (show 5<8 by omega)
       have c6:=hr.cell (show 6<8 by omega)
       have c7:=hr.cell (show 7<8 by omega)
       have fr:=hr.free
       go_wp2
       have t7:IntKind.i64.wrap (64*(k:Int)+64)=64*(k:Int)+64:=i64w _ (by omega)
       have t4:(0:Int)≤64*(k:Int):=by omega
       have t5:64*(k:Int)+64≤(M.size:Int):=by omega
       have t6:64*(k:Int)≤64*(k:Int)+64:=by omega
       have t1:(64*(k:Int)).toNat=64*k:=by omega
       have t2:(64*(k:Int)+64).toNat=64*k+64:=by omega
       refine wp_region_held_drew (S:=fun w'=>w'.rangeAt w.heap.size 0 (rowOf 72 fun j=>.int .u32 (RV j)).toList) (by kernel_rfl) (range72 hR2.drew) (fun hHeld=>?_)
       refine wpAnyH_take (i:=0) rfl (by kernel_rfl) (by kernel_rfl) (by kernel_rfl) (fun _ _ _ h=>h) (yieldsIf_load_mid (by rfl) 80 (.tmp 2) rfl w.heap.size 0 rfl (rowOf 72 fun j=>.int .u32 (RV j)).toList _ (fun _ h=>h) Tryz.underlying80 rfl (by rw [Array.length_toList,rowOf_size];exact info30)) hHeld ?_
       simp only [Act.put,ls1,ls2,ls3,Array.toArray_toList]
       refine wpAnyH_take (i:=2) rfl (by kernel_rfl) (by kernel_rfl) (by kernel_rfl) (fun _ _ _ h=>h) (Or.inl ⟨by rfl,fun w _=>by go_simp;rfl⟩) hHeld ?_
       simp only [Act.put,ls1,ls2,ls3]
       refine wpAnyH_take (i:=3) rfl (by kernel_rfl) (by kernel_rfl) (by kernel_rfl) (fun _ _ _ h=>h) (Or.inl ⟨by rfl,fun w _=>by go_simp;rfl⟩) hHeld ?_
       simp only [Act.put,ls1,ls2,ls3]
       refine wpAnyH_take (i:=4) rfl (by kernel_rfl) (by kernel_rfl) (by kernel_rfl) (fun _ _ _ h=>h) (Or.inl ⟨by rfl,fun w _=>by go_simp;rfl⟩) hHeld ?_
       simp only [Act.put,ls1,ls2,ls3]
       refine wpAnyH_take (i:=5) rfl (by kernel_rfl) (by kernel_rfl) (by kernel_rfl) (fun _ _ _ h=>h) (Or.inl ⟨by rfl,fun w _=>by go_simp;rfl⟩) hHeld ?_
       simp only [Act.put,ls1,ls2,ls3]
       refine wpAnyH_take (i:=6) rfl (by kernel_rfl) (by kernel_rfl) (by kernel_rfl) (fun _ _ _ h=>h) (Or.inl ⟨by rfl,fun w _=>by go_simp;rfl⟩) hHeld ?_
       simp only [Act.put,ls1,ls2,ls3]
       refine wpAnyH_ready (rs:=[1]) (by kernel_rfl) (by simp) (AllReadyH.cons rfl (fun K hK=>?_) AllReadyH.nil)
       go_simp
       refine hK.out _ _ hHeld fun hHeld=>?_
       clear hK K
       refine wpAnyH_ready (rs:=[7]) (by kernel_rfl) (by simp) (AllReadyH.cons rfl (fun K hK=>?_) AllReadyH.nil)
       go_simp
       have hms:(M.extract (64*k) (64*k+64)).size=64:=by rw [ByteArray.size_extract];omega
       refine (block_KK st _ hms sw _).mono ?_
       rintro e w1 ⟨rfl,hb1⟩
       have r1:=hr.drew.below hb1 hgl
       have k0:=r1.cell (show 0<8 by omega)
       have k1:=r1.cell (show 1<8 by omega)
       have k2:=r1.cell (show 2<8 by omega)
       have k3:=r1.cell (show 3<8 by omega)
       have k4:=r1.cell (show 4<8 by omega)
       have k5:=r1.cell (show 5<8 by omega)
       have k6:=r1.cell (show 6<8 by omega)
       have k7:=r1.cell (show 7<8 by omega)
       have f1:=r1.free
       refine hK.out _ _ (range72 (hR2.drew.below hb1 hR2.lt)) (fun hHeld=>?_)
       clear hK K
       refine wpAnyH_ready (rs:=[8]) (by kernel_rfl) (by simp) (AllReadyH.cons rfl (fun K hK=>?_) AllReadyH.nil)
       go_simp
       have hbw1:=hb2.drew.trans (hb1.mono hb2.size)
       refine hK.out _ _ (range72 ((hR2.drew.below hb1 hR2.lt).set8Other (by have:=hR.lt;omega) (fun j=>.int .u32 (blk KK (sch (mB (M.extract (64*k) (64*k+64)))) st j)))) (fun hHeld=>?_)
       clear hK K
       refine wdn ?_
       go_wp2
       go_roundw
       case rel=>
        have R1:=rsum_rel Hst.out r1
        have R2:=below_set8 hbw1 (Nat.le_refl _) (fun j=>.int .u32 (blk KK (sch (mB (M.extract (64*k) (64*k+64)))) st j))
        (repeat apply Exists.intro)
        exact ⟨⟨k+1,hlt,by go_num,R1,R2⟩,rfl⟩
       case measure=>simp [intOf];omega
      ·obtain rfl:k=n:=by omega
       obtain ⟨i0,hi,hz0,hz1,hz2⟩:=info_parts info5
       have hbs:=hbl.size
       have hgl:=hr.lt
       have hbq:=hbl.trans (hb2.mono hbs)
       have shw:=blks_w KK (mB M) RV_w k
       generalize hh:blks KK (mB M) RV k=h at hr shw
       have Hh:Hid (blks KK (mB M) RV k=h):=hh
       clear hh hR hbl hb2
       obtain ⟨wq,rfl⟩:∃ x,x=wr:=⟨_,rfl⟩
       go_wp2
       go_loopw [10,11] (fun v i wr=>∃ k:Nat,k≤8∧i=.int .i64 k∧wr.ownsRow wq.heap.size 5 1 v (4*k) (u8s (outL h (4*k)))∧Below wq.heap.size wq wr)
        (fun _ i _=>8-(intOf i).toNat)
       case atStart=>exact ⟨0,by omega,rfl,World.ownsRow_nil _ _ _ _,Below.refl _ _⟩
       case round=>
        obtain ⟨j,hj,rfl,hown,hb3⟩:=hrel
        by_cases hlt:j<8
        ·have c0:=(hr.below hb3 hgl).cell hlt
         have lj:(j:Int)<8:=by omega
         obtain ⟨w0,w1⟩:=shw j
         have hs3:=hb3.size
         obtain ⟨ao,cp,rfl,_⟩:=own_view hown
         clear shw
         go_wp2
         go_region_held3 (fun w'=>w'.cell? ⟨wb.heap.size,j,none⟩=some (.int .u32 (h j))) (go_keep) (((refine step_append_lies _ rfl (.tmp 56) (.tmp 76) 59 rfl wq.heap.size 5 i0 (.int .u8 0) 1 1 Tryz.underlying59 hi hz0 hz1 hz2 rfl (by decide) _ _ _ rfl (hown.alloc _) ⟨wr.heap.size,0,none⟩ 4 4 (u8s [h j / 16777216 % 256,h j / 65536 % 256,h j / 256 % 256,h j % 256]) rfl rfl ?hn (u8s_one _) (by omega) (by unfold maxLen;omega) (by omega) ?hb _ rfl ?_);(case hn=>exact World.news_of_block (heap_alloc_new wr _));(case hb=>show wq.heap.size≤(wr.alloc _).heap.size;simp;omega);(intro g2 cap2 w2 hown2 hgr2 hat2 hlt2;have hS2:w2.cell? ⟨wb.heap.size,j,none⟩=some (.int .u32 (h j)):=(hgr2.cell_far ⟨wb.heap.size,j,none⟩ (by show wb.heap.size<(wr.alloc _).heap.size;simp;omega) (fun e=>by have:=(hown.lt _ e.symm).1;simp at this;omega)).trans (((hr.below hb3 hgl).alloc _).cell hlt))))
         have R1:w2.ownsRow wq.heap.size 5 1 (.slice (some ⟨g2,0,none⟩) (4*j+4) cap2) (4*(j+1)) (u8s (outL h (4*(j+1)))):=by rw [outL_four,u8s_append];exact hown2
         have R2:Below wq.heap.size wq w2:=by
          have q1:∀ m,Value.ownBlock (.slice ao (4*j) cp)=some m→wq.heap.size≤m:=fun m hm=>(hown.lt m hm).1
          first|exact (hb3.alloc hs3 _).grown hgr2 (by simp;omega) q1|exact ((hb3.alloc hs3 _).drew).grown hgr2 (by simp;omega) q1|exact ((hb3.drew).alloc hs3 _).grown hgr2 (by simp;omega) q1
         go_wp2
         go_roundw
         case rel=>first|exact ⟨j+1,by omega,by go_num,R1,R2⟩|((repeat apply Exists.intro);exact ⟨⟨j+1,by omega,by go_num,R1,R2⟩,rfl⟩)
         case measure=>simp [intOf];omega
        ·obtain rfl:j=8:=by omega
         obtain ⟨ao,cp,rfl,hcl⟩:=own_view hown
         obtain ⟨g,rfl,_⟩:=hcl 0 (by omega)
         have hcv2:(convert 59 9 (.slice (some ⟨g,0,none⟩) 32 cp)).run Tryz.prog wr=.ok (.string (strOfNums (outL h 32))) wr:=
          run_convert_bytes_arg wr 59 5 Tryz.underlying59 Tryz.underlying5 g 0 32 cp (outL h 32) (by simp [outL]) (own_cells hown (by simp [outL])) _ Tryz.underlying9
         clear hcl
         go_wp2
         go_ret
         refine ⟨?_,hbq.trans (hb3.mono hbq.size)⟩
         rw [Hend.out M k (by rw [HPP.out];exact HM.out) Hn.out,Hh.out];rfl
def vbF:Nat→Nat→ByteArray
 | 0,n=>strOfNums [(n:Int)]
 | k+1,n=>if n<128 then strOfNums [(n:Int)] else strOfNums [128+(n:Int) % 128]++vbF k (n / 128)
theorem vbF_same:∀ k m n,n≤k→n≤m→vbF k n=vbF m n:=by
  intro k
  induction k with
  | zero => intro m n h1 h2; obtain rfl : n = 0 := by omega
            cases m with
            | zero=>rfl
            | succ m=>rw [vbF,vbF,if_pos (by omega)]
  | succ k ih=>
    intro m n h1 h2
    cases m with
    | zero => obtain rfl : n = 0 := by omega
              rw [vbF,vbF,if_pos (by omega)]
    | succ m=>
      rw [vbF,vbF]
      split
      · rfl
      · rw [ih m (n / 128) (by omega) (by omega)]
def vb (n:Nat):ByteArray:=vbF n n
theorem vb_lt {n:Nat} (h:n<128):vb n=strOfNums [(n:Int)]:=by
 unfold vb
 cases n with
 | zero=>rfl
 | succ n=>rw [vbF,if_pos h]
theorem vb_ge {n:Nat} (h:¬ n<128):vb n=strOfNums [128+(n:Int) % 128]++vb (n / 128):=by
 unfold vb
 cases n with
 | zero=>omega
 | succ n=>rw [vbF,if_neg h,vbF_same n ((n+1) / 128) ((n+1) / 128) (by omega) (Nat.le_refl _)]
theorem vb_size (k:Nat):∀ n,n<128 ^ (k+1)→1≤(vb n).size∧(vb n).size≤k+1:=by
 induction k with
 | zero=>intro n h;rw [vb_lt (by omega),strOfNums_size];simp
 | succ k ih=>
  intro n h
  by_cases hn:n<128
  ·rw [vb_lt hn,strOfNums_size];simp
  ·rw [vb_ge hn,ByteArray.size_append,strOfNums_size]
   have:=ih (n / 128) (by rw [Nat.pow_succ] at h;omega)
   simp;omega
theorem varint_any (n:Nat) (hn:n<18446744073709551616) (w:World) :
  Calls Tryz.prog 73 #[.int .u64 n] w fun e w'=>e=.returned (.string (vb n))∧Below w.heap.size w w':=by
 have hsz:=(vb_size 9 n (by omega)).2
 have hadd:=@run_string_add_sum Tryz.prog
 have hcv:=conv_one
 go_enter Tryz.func73,Tryz.ntmps73
 go_wp2
 go_loopw [0,3] (fun nv sv wr=>∃ (m:Nat) (s:ByteArray),nv=.int .u64 m∧sv=.string s∧m≤n∧s++vb m=vb n∧Below w.heap.size w wr) (fun nv _ _=>(intOf nv).toNat)
 case atStart=>exact ⟨n,_,rfl,rfl,Nat.le_refl _,ByteArray.empty_append,Below.refl _ _⟩
 case round=>
  obtain ⟨m,s,rfl,rfl,hm,hs,hbl⟩:=hrel
  have hss:s.size≤10:=by rw [← hs,ByteArray.size_append] at hsz;omega
  by_cases hlt:m<128
  ·have h1s:=strOfNums_size [(m:Int)]
   have lm:¬ (128:Int)≤(m:Int):=by omega
   have HE:Hid (vb n=s++strOfNums [(m:Int)]):=by rw [← hs,vb_lt hlt];exact rfl
   clear hs
   go_wp2
   go_ret
   exact ⟨by rw [HE.out];rfl,hbl.alloc hbl.size _⟩
  ·have h1s:=strOfNums_size [128+(m:Int) % 128]
   have lm:(128:Int)≤(m:Int):=by omega
   have HE:Hid ((s++strOfNums [128+(m:Int) % 128])++vb (m / 128)=vb n):=by
    have e:=hs
    rw [vb_ge hlt,← ByteArray.append_assoc] at e
    exact e
   clear hs
   go_wp2
   go_roundw
   case rel=>exact ⟨m / 128,_,by go_num,rfl,by omega,HE.out,hbl.alloc hbl.size _⟩
   case measure=>simp [intOf];omega
theorem isKey0 (w:World):Calls Tryz.prog 204 #[.int .u64 0] w fun e w'=>e=.returned (.bool false)∧w'=w:=by
 go_enter Tryz.func204,Tryz.ntmps204
 go_wp2
 go_ret
 exact ⟨rfl,rfl⟩
theorem isKey1 (w:World):Calls Tryz.prog 204 #[.int .u64 1048577] w fun e w'=>e=.returned (.bool true)∧w'=w:=by
 go_enter Tryz.func204,Tryz.ntmps204
 go_wp2
 go_ret
 exact ⟨rfl,rfl⟩
theorem isChar_any (c:Int) (h:32≤c∧c≤55295) (w:World):Calls Tryz.prog 133 #[.int .i32 c] w fun e w'=>e=.returned (.bool true)∧w'=w:=by
 obtain ⟨h0,h1⟩:=h
 have h2:c≤1114111:=by omega
 have h3:c<55296:=by omega
 go_enter Tryz.func133,Tryz.ntmps133
 go_wp2
 go_ret
 exact ⟨rfl,rfl⟩
theorem keyA (w:World):Calls Tryz.prog 124 #[.agg #[.int .i64 1,.int .u32 1,.int .u32 1,.int .u32 1,.int .u64 0,.int .i32 97]] w fun e w'=>e=.returned (.int .u64 1048577)∧Below w.heap.size w w':=by
 go_enter Tryz.func124,Tryz.ntmps124
 go_wp2
 go_ret
 exact ⟨rfl,(Below.refl _ _).alloc (Nat.le_refl _) _⟩
theorem keyB (w:World):Calls Tryz.prog 124 #[.agg #[.int .i64 1,.int .u32 1,.int .u32 2,.int .u32 2,.int .u64 1048577,.int .i32 98]] w fun e w'=>e=.returned (.int .u64 1048578)∧Below w.heap.size w w':=by
 go_enter Tryz.func124,Tryz.ntmps124
 go_wp2
 go_ret
 exact ⟨rfl,(Below.refl _ _).alloc (Nat.le_refl _) _⟩
theorem isOpA (w:World):Calls Tryz.prog 123 #[.agg #[.int .i64 1,.int .u32 1,.int .u32 1,.int .u32 1,.int .u64 0,.int .i32 97]] w fun e w'=>e=.returned (.bool true)∧Below w.heap.size w w':=by
 go_enter Tryz.func123,Tryz.ntmps123
 go_wp2_with (first
  | (go_at_call 204;refine (isKey0 _).mono ?_;rintro e w1 ⟨rfl,rfl⟩)
  | (go_at_call 133;refine (isChar_any 97 (by decide) _).mono ?_;rintro e w2 ⟨rfl,rfl⟩)
  | (go_at_call 124;refine (keyA _).mono ?_;rintro e w3 ⟨rfl,hb3⟩;have n0:w3.cell? ⟨w.heap.size,0,none⟩=some (.int .i64 1):=(hb3.cell (p:=⟨w.heap.size,0,none⟩) (by simp)).trans ((cell_of_row _ _ _ _ _ _ (heap_alloc_new w _)).trans rfl);have n4:w3.cell? ⟨w.heap.size,4,none⟩=some (.int .u64 0):=(hb3.cell (p:=⟨w.heap.size,4,none⟩) (by simp)).trans ((cell_of_row _ _ _ _ _ _ (heap_alloc_new w _)).trans rfl)))
 go_ret
 exact ⟨rfl,((Below.refl _ _).alloc (Nat.le_refl _) _).trans (hb3.mono (by simp))⟩
theorem isOpB (w:World):Calls Tryz.prog 123 #[.agg #[.int .i64 1,.int .u32 1,.int .u32 2,.int .u32 2,.int .u64 1048577,.int .i32 98]] w fun e w'=>e=.returned (.bool true)∧Below w.heap.size w w':=by
 go_enter Tryz.func123,Tryz.ntmps123
 go_wp2_with (first
  | (go_at_call 204;refine (isKey1 _).mono ?_;rintro e w1 ⟨rfl,rfl⟩)
  | (go_at_call 133;refine (isChar_any 98 (by decide) _).mono ?_;rintro e w2 ⟨rfl,rfl⟩)
  | (go_at_call 124;refine (keyB _).mono ?_;rintro e w3 ⟨rfl,hb3⟩;have n0:w3.cell? ⟨w.heap.size,0,none⟩=some (.int .i64 1):=(hb3.cell (p:=⟨w.heap.size,0,none⟩) (by simp)).trans ((cell_of_row _ _ _ _ _ _ (heap_alloc_new w _)).trans rfl);have n4:w3.cell? ⟨w.heap.size,4,none⟩=some (.int .u64 1048577):=(hb3.cell (p:=⟨w.heap.size,4,none⟩) (by simp)).trans ((cell_of_row _ _ _ _ _ _ (heap_alloc_new w _)).trans rfl)))
 go_ret
 exact ⟨rfl,((Below.refl _ _).alloc (Nat.le_refl _) _).trans (hb3.mono (by simp))⟩
theorem eqDig (W:World):(Op.equalIn 10000 50 (.agg #[.int .u8 0,.int .u8 0,.int .u8 0]) (.agg #[.int .u8 0,.int .u8 0,.int .u8 0])).run Tryz.prog W=.ok true W:=by
 kernel_rfl
theorem isFrame2 (hk:Int) (ss:Int) (h:(hk=1∧ss=1)∨(hk=2∧ss=4)) (w:World):Calls Tryz.prog 72 #[.agg #[.int .i64 hk,.int .u32 ss,.int .u64 0,.int .u64 1099511627776,.int .u8 0,.int .u8 0,.int .u8 0,.slice none 0 0]] w fun e w'=>e=.returned (.bool true)∧Below w.heap.size w w':=by
 rcases h with ⟨rfl,rfl⟩|⟨rfl,rfl⟩
 ·go_enter Tryz.func72,Tryz.ntmps72
  go_wp2
  go_loopw [4] (fun i wr=>i=.int .i64 0∧Below w.heap.size w wr) (fun _ _=>0)
  case atStart=>exact ⟨rfl,(Below.refl _ _).alloc (Nat.le_refl _) _⟩
  case round=>
   obtain ⟨rfl,hbl⟩:=hrel
   go_wp2
   go_ret
   exact ⟨rfl,hbl⟩
 ·have heq:=eqDig
  go_enter Tryz.func72,Tryz.ntmps72
  go_wp2
  go_loopw [4] (fun i wr=>i=.int .i64 0∧Below w.heap.size w wr) (fun _ _=>0)
  case atStart=>exact ⟨rfl,(Below.refl _ _).alloc (Nat.le_refl _) _⟩
  case round=>
   obtain ⟨rfl,hbl⟩:=hrel
   go_wp2
   go_ret
   exact ⟨rfl,hbl⟩
theorem range_below {w w':World} {g o B:Nat} {cs:List Value} (h:w.rangeAt g o cs) (hb:Below B w w') (hg:g<B):w'.rangeAt g o cs:=fun j v hj=>(hb.cell (p:=⟨g,o+j,none⟩) hg).trans (h j v hj)
theorem cells0 {w:World} {g:Nat} {v0 v1 v2 v3 v4 v5:Value} (h:w.rangeAt g 0 [v0,v1,v2,v3,v4,v5]):w.cell? ⟨g,0,none⟩=some v0∧w.cell? ⟨g,1,none⟩=some v1∧w.cell? ⟨g,2,none⟩=some v2∧w.cell? ⟨g,3,none⟩=some v3∧w.cell? ⟨g,4,none⟩=some v4∧w.cell? ⟨g,5,none⟩=some v5:=
 ⟨h 0 v0 rfl,h 1 v1 rfl,h 2 v2 rfl,h 3 v3 rfl,h 4 v4 rfl,h 5 v5 rfl⟩
theorem cells6 {w:World} {g:Nat} {v0 v1 v2 v3 v4 v5:Value} (h:w.rangeAt g 6 [v0,v1,v2,v3,v4,v5]):w.cell? ⟨g,6,none⟩=some v0∧w.cell? ⟨g,7,none⟩=some v1∧w.cell? ⟨g,8,none⟩=some v2∧w.cell? ⟨g,9,none⟩=some v3∧w.cell? ⟨g,10,none⟩=some v4∧w.cell? ⟨g,11,none⟩=some v5:=
 ⟨h 0 v0 rfl,h 1 v1 rfl,h 2 v2 rfl,h 3 v3 rfl,h 4 v4 rfl,h 5 v5 rfl⟩
theorem keyG (k st rf ch:Value) (cl ck:Int) (h1:0≤cl∧cl<4294967296) (h2:0≤ck∧ck<4294967296) (w:World):Calls Tryz.prog 124 #[.agg #[k,.int .u32 cl,.int .u32 ck,st,rf,ch]] w fun e w'=>e=.returned (.int .u64 (cl*1048576+ck))∧Below w.heap.size w w':=by
 obtain ⟨h3,h4⟩:=h1
 obtain ⟨h5,h6⟩:=h2
 go_enter Tryz.func124,Tryz.ntmps124
 go_wp2
 go_ret
 exact ⟨rfl,(Below.refl _ _).alloc (Nat.le_refl _) _⟩
theorem isFrame1 (g:Nat) (w:World) (hA:w.rangeAt g 0 [.int .i64 1,.int .u32 1,.int .u32 1,.int .u32 1,.int .u64 0,.int .i32 97]) (hB:w.rangeAt g 6 [.int .i64 1,.int .u32 1,.int .u32 2,.int .u32 2,.int .u64 1048577,.int .i32 98]) (hg:g<w.heap.size) :
  Calls Tryz.prog 72 #[.agg #[.int .i64 5,.int .u32 1,.int .u64 0,.int .u64 0,.int .u8 0,.int .u8 0,.int .u8 0,.slice (some ⟨g,0,none⟩) 2 2]] w fun e w'=>e=.returned (.bool true)∧Below w.heap.size w w':=by
 have heq:=eqDig
 go_enter Tryz.func72,Tryz.ntmps72
 go_wp2
 go_loopw [4] (fun i wr=>(i=.int .i64 0∨i=.int .i64 1∨i=.int .i64 2)∧Below (w.heap.size+1) (w.alloc (.cells #[.int .i64 5,.int .u32 1,.int .u64 0,.int .u64 0,.int .u8 0,.int .u8 0,.int .u8 0,.slice (some ⟨g,0,none⟩) 2 2] 58)) wr) (fun i _=>2-(intOf i).toNat)
 case atStart=>exact ⟨Or.inl rfl,Below.refl _ _⟩
 case round=>
  obtain ⟨hi,hbl⟩:=hrel
  have hsz:w.heap.size<(w.alloc (.cells #[.int .i64 5,.int .u32 1,.int .u64 0,.int .u64 0,.int .u8 0,.int .u8 0,.int .u8 0,.slice (some ⟨g,0,none⟩) 2 2] 58)).heap.size:=by simp
  have b0:wr.cell? ⟨w.heap.size,0,none⟩=some (.int .i64 5):=(hbl.cell (p:=⟨w.heap.size,0,none⟩) (Nat.lt_succ_self _)).trans ((cell_of_row _ _ _ _ _ _ (heap_alloc_new w _)).trans rfl)
  have b7:wr.cell? ⟨w.heap.size,7,none⟩=some (.slice (some ⟨g,0,none⟩) 2 2):=(hbl.cell (p:=⟨w.heap.size,7,none⟩) (Nat.lt_succ_self _)).trans ((cell_of_row _ _ _ _ _ _ (heap_alloc_new w _)).trans rfl)
  have hb0:Below w.heap.size w wr:=((Below.refl _ _).alloc (Nat.le_refl _) _).trans (hbl.mono (Nat.le_succ _))
  have hA1:=range_below hA hb0 hg
  have hB1:=range_below hB hb0 hg
  have hgr:=Nat.lt_of_lt_of_le hg hb0.size
  have hs1:=hbl.size
  have hs2:w.heap.size<wr.heap.size:=Nat.lt_of_lt_of_le hsz hs1
  have HX:Hid (wr.rangeAt g 0 _∧wr.rangeAt g 6 _):=⟨hA1,hB1⟩
  clear hA1 hB1 hA hB
  rcases hi with rfl|rfl|rfl
  ·obtain ⟨r10,r11,r12,r13,r14,r15⟩:=cells0 (HX.out.1)
   go_wp2_with (first
    | (go_at_call 123;refine (isOpA _).mono ?_;rintro e w2 ⟨rfl,hb2⟩;obtain ⟨r20,r21,r22,r23,r24,r25⟩:=cells0 (range_below HX.out.1 hb2 hgr);have b72:=(hb2.cell hs2).trans b7)
    | (go_at_call 124;refine (keyA _).mono ?_;rintro e w3 ⟨rfl,hb3⟩;have hs3:=Nat.lt_of_lt_of_le hs2 hb2.size;have b03:=(hb3.cell hs3).trans ((hb2.cell hs2).trans b0)))
   go_roundw
   case rel=>exact ⟨Or.inr (Or.inl rfl),hbl.trans ((hb2.trans (hb3.mono hb2.size)).mono hs2)⟩
   case measure=>simp [intOf]
  ·obtain ⟨r10,r11,r12,r13,r14,r15⟩:=cells6 (HX.out.2)
   go_wp2_with (first
    | (go_at_call 123;refine (isOpB _).mono ?_;rintro e w2 ⟨rfl,hb2⟩;obtain ⟨r20,r21,r22,r23,r24,r25⟩:=cells6 (range_below HX.out.2 hb2 hgr);have b72:=(hb2.cell hs2).trans b7)
    | (go_at_call 124;refine (keyG _ _ _ _ _ _ ⟨by decide,by decide⟩ ⟨by decide,by decide⟩ _).mono ?_;first|(clear b73;rintro e w4 ⟨rfl,hb4⟩)|(rintro e w3 ⟨rfl,hb3⟩;have hs3:=Nat.lt_of_lt_of_le hs2 hb2.size;have b03:=(hb3.cell hs3).trans ((hb2.cell hs2).trans b0);have b73:=(hb3.cell hs3).trans b72;obtain ⟨r30,r31,r32,r33,r34,r35⟩:=cells0 (range_below (range_below HX.out.1 hb2 hgr) hb3 (Nat.lt_of_lt_of_le hgr hb2.size)))))
   go_roundw
   case rel=>exact ⟨Or.inr (Or.inr rfl),hbl.trans ((hb2.trans ((hb3.trans (hb4.mono hb3.size)).mono hb2.size)).mono hs2)⟩
   case measure=>simp [intOf]
  ·go_wp2
   go_ret
   exact ⟨rfl,hb0⟩
def okKey (k:Int):Bool:=decide (1≤k / 1048576)&&decide (k / 1048576≤1048575)&&decide (1≤k % 1048576)
def okChar (c:Int):Bool:=decide (32≤c)&&decide (c≤1114111)&&(decide (c<55296)||decide (57343<c))
theorem isKey_any (k:Int) (h0:0≤k) (h1:k<18446744073709551616) (w:World):Calls Tryz.prog 204 #[.int .u64 k] w fun e w'=>e=.returned (.bool (okKey k))∧w'=w:=by
 by_cases a1:1≤k / 1048576<;>by_cases a2:k / 1048576≤1048575<;>by_cases a3:1≤k % 1048576
 all_goals (
  go_enter Tryz.func204,Tryz.ntmps204
  go_wp2<;>(go_ret;exact ⟨by simp [okKey,a1,a2,a3],rfl⟩))
theorem isChar_all (c:Int) (w:World):Calls Tryz.prog 133 #[.int .i32 c] w fun e w'=>e=.returned (.bool (okChar c))∧w'=w:=by
 by_cases a1:32≤c<;>by_cases a2:c≤1114111<;>by_cases a3:c<55296<;>by_cases a4:57343<c
 all_goals (
  go_enter Tryz.func133,Tryz.ntmps133
  go_wp2
  go_ret
  exact ⟨by simp [okChar,a1,a2,a3,a4],rfl⟩)
def okOp (kd cl ck st rf ch:Int):Bool:=
 decide (1≤cl)&&decide (cl≤1048575)&&decide (1≤ck)&&decide (ck≤1048575)&&decide (1≤st)&&decide (st≤1073741823)&&!decide (cl*1048576+ck=rf) &&
  (if kd=1 then okChar ch&&(okKey rf||decide (rf=0)) else decide (kd=2)&&okKey rf&&decide (ch=0))
theorem opN {w W w3:World} {c0 c1 c2 c3 c4 c5:Value} (hb:Below W.heap.size W w3) (hW:W=w.alloc (.cells #[c0,c1,c2,c3,c4,c5] 43)):w3.cell? ⟨w.heap.size,0,none⟩=some c0∧w3.cell? ⟨w.heap.size,4,none⟩=some c4∧w3.cell? ⟨w.heap.size,5,none⟩=some c5:=by
 subst hW
 exact ⟨(hb.cell (p:=⟨w.heap.size,0,none⟩) (by simp)).trans ((cell_of_row _ _ _ _ _ _ (heap_alloc_new w _)).trans rfl),(hb.cell (p:=⟨w.heap.size,4,none⟩) (by simp)).trans ((cell_of_row _ _ _ _ _ _ (heap_alloc_new w _)).trans rfl),(hb.cell (p:=⟨w.heap.size,5,none⟩) (by simp)).trans ((cell_of_row _ _ _ _ _ _ (heap_alloc_new w _)).trans rfl)⟩
theorem isOp_any (kd cl ck st rf ch:Int) (hcl:0≤cl∧cl<4294967296) (hck:0≤ck∧ck<4294967296) (h0:0≤rf) (h1:rf<18446744073709551616) (w:World) :
  Calls Tryz.prog 123 #[.agg #[.int .i64 kd,.int .u32 cl,.int .u32 ck,.int .u32 st,.int .u64 rf,.int .i32 ch]] w fun e w'=>e=.returned (.bool (okOp kd cl ck st rf ch))∧Below w.heap.size w w':=by
 have hz:Below w.heap.size w (w.alloc (.cells #[.int .i64 kd,.int .u32 cl,.int .u32 ck,.int .u32 st,.int .u64 rf,.int .i32 ch] 43)):=(Below.refl _ _).alloc (Nat.le_refl _) _
 rcases Int.lt_or_le cl 1 with a1|a1
 ·go_enter Tryz.func123,Tryz.ntmps123
  go_wp2
  go_ret
  exact ⟨by simp [okOp];omega,hz⟩
 ·rcases Int.lt_or_le 1048575 cl with a2|a2
  ·go_enter Tryz.func123,Tryz.ntmps123
   go_wp2
   go_ret
   exact ⟨by simp [okOp];omega,hz⟩
  ·rcases Int.lt_or_le ck 1 with a3|a3
   ·go_enter Tryz.func123,Tryz.ntmps123
    go_wp2
    go_ret
    exact ⟨by simp [okOp];omega,hz⟩
   ·rcases Int.lt_or_le 1048575 ck with a4|a4
    ·go_enter Tryz.func123,Tryz.ntmps123
     go_wp2
     go_ret
     exact ⟨by simp [okOp];omega,hz⟩
    ·rcases Int.lt_or_le st 1 with a5|a5
     ·go_enter Tryz.func123,Tryz.ntmps123
      go_wp2
      go_ret
      exact ⟨by simp [okOp];omega,hz⟩
     ·rcases Int.lt_or_le 1073741823 st with a6|a6
      ·go_enter Tryz.func123,Tryz.ntmps123
       go_wp2
       go_ret
       exact ⟨by simp [okOp];omega,hz⟩
      ·have hk:=isKey_any rf h0 h1
       have hc:=isChar_all ch
       generalize hK:okKey rf=K at hk
       generalize hC:okChar ch=C at hc
       have HK:Hid (okKey rf=K):=hK
       have HC:Hid (okChar ch=C):=hC
       have Hk:Hid (∀ w,Calls _ _ _ w _):=hk
       have Hc:Hid (∀ w,Calls _ _ _ w _):=hc
       clear hk hc hK hC
       have key:∀ r:Bool,(cl*1048576+ck=rf→r=false)→(cl*1048576+ck≠rf→r=(if kd=1 then C&&(K||decide (rf=0)) else decide (kd=2)&&K&&decide (ch=0)))→r=okOp kd cl ck st rf ch:=fun r p1 p2=>by
        have e:okOp kd cl ck st rf ch=(!decide (cl*1048576+ck=rf)&&(if kd=1 then C&&(K||decide (rf=0)) else decide (kd=2)&&K&&decide (ch=0))):=by
         unfold okOp
         rw [HK.out,HC.out,decide_eq_true (by omega:1≤cl),decide_eq_true a2,decide_eq_true (by omega:1≤ck),decide_eq_true a4,decide_eq_true (by omega:1≤st),decide_eq_true a6]
         rfl
        rw [e]
        by_cases h:cl*1048576+ck=rf
        ·rw [p1 h,decide_eq_true h];rfl
        ·rw [p2 h,decide_eq_false h];rfl
       have Key:Hid (∀ r:Bool,(cl*1048576+ck=rf→r=false)→(cl*1048576+ck≠rf→r=(if kd=1 then C&&(K||decide (rf=0)) else decide (kd=2)&&K&&decide (ch=0)))→r=okOp kd cl ck st rf ch):=key
       clear key
       have a1':¬ cl<1:=by omega
       have a3':¬ ck<1:=by omega
       have a5':¬ st<1:=by omega
       by_cases b1:cl*1048576+ck=rf
       ·go_enter Tryz.func123,Tryz.ntmps123
        go_wp2_with (first
         | (go_at_call 204;refine (Hk.out _).mono ?_;rintro e w1 ⟨rfl,rfl⟩)
         | (go_at_call 133;refine (Hc.out _).mono ?_;rintro e w2 ⟨rfl,rfl⟩)
         | (go_at_call 124;refine (keyG _ _ _ _ _ _ hcl hck _).mono ?_;rintro e w3 ⟨rfl,hb3⟩;obtain ⟨n0,n4,n5⟩:=opN hb3 rfl))
        all_goals (go_ret;exact ⟨congrArg (fun b=>Ending.returned (.bool b)) (Key.out _ (fun h=>by first|rfl|exact absurd h b1) (fun h=>by first|exact absurd b1 h|simp [*])),hz.trans (hb3.mono (by simp))⟩)
       ·by_cases b2:kd=1
        ·subst b2
         by_cases b4:rf=0
         ·subst b4
          cases K<;>cases C
          all_goals (
           go_enter Tryz.func123,Tryz.ntmps123
           go_wp2_with (first
            | (go_at_call 204;refine (Hk.out _).mono ?_;rintro e w1 ⟨rfl,rfl⟩)
            | (go_at_call 133;refine (Hc.out _).mono ?_;rintro e w2 ⟨rfl,rfl⟩)
            | (go_at_call 124;refine (keyG _ _ _ _ _ _ hcl hck _).mono ?_;rintro e w3 ⟨rfl,hb3⟩;obtain ⟨n0,n4,n5⟩:=opN hb3 rfl))
           all_goals (go_ret;exact ⟨congrArg (fun b=>Ending.returned (.bool b)) (Key.out _ (fun h=>by first|rfl|exact absurd h b1) (fun h=>by first|exact absurd b1 h|simp [*])),hz.trans (hb3.mono (by simp))⟩))
         ·cases K<;>cases C
          all_goals (
           go_enter Tryz.func123,Tryz.ntmps123
           go_wp2_with (first
            | (go_at_call 204;refine (Hk.out _).mono ?_;rintro e w1 ⟨rfl,rfl⟩)
            | (go_at_call 133;refine (Hc.out _).mono ?_;rintro e w2 ⟨rfl,rfl⟩)
            | (go_at_call 124;refine (keyG _ _ _ _ _ _ hcl hck _).mono ?_;rintro e w3 ⟨rfl,hb3⟩;obtain ⟨n0,n4,n5⟩:=opN hb3 rfl))
           all_goals (go_ret;exact ⟨congrArg (fun b=>Ending.returned (.bool b)) (Key.out _ (fun h=>by first|rfl|exact absurd h b1) (fun h=>by first|exact absurd b1 h|simp [*])),hz.trans (hb3.mono (by simp))⟩))
        ·by_cases b3:kd=2
         ·subst b3
          by_cases b5:ch=0
          ·subst b5
           cases K
           all_goals (
            go_enter Tryz.func123,Tryz.ntmps123
            go_wp2_with (first
             | (go_at_call 204;refine (Hk.out _).mono ?_;rintro e w1 ⟨rfl,rfl⟩)
             | (go_at_call 133;refine (Hc.out _).mono ?_;rintro e w2 ⟨rfl,rfl⟩)
             | (go_at_call 124;refine (keyG _ _ _ _ _ _ hcl hck _).mono ?_;rintro e w3 ⟨rfl,hb3⟩;obtain ⟨n0,n4,n5⟩:=opN hb3 rfl))
            all_goals (go_ret;exact ⟨congrArg (fun b=>Ending.returned (.bool b)) (Key.out _ (fun h=>by first|rfl|exact absurd h b1) (fun h=>by first|exact absurd b1 h|simp [*])),hz.trans (hb3.mono (by simp))⟩))
          ·cases K
           all_goals (
            go_enter Tryz.func123,Tryz.ntmps123
            go_wp2_with (first
             | (go_at_call 204;refine (Hk.out _).mono ?_;rintro e w1 ⟨rfl,rfl⟩)
             | (go_at_call 133;refine (Hc.out _).mono ?_;rintro e w2 ⟨rfl,rfl⟩)
             | (go_at_call 124;refine (keyG _ _ _ _ _ _ hcl hck _).mono ?_;rintro e w3 ⟨rfl,hb3⟩;obtain ⟨n0,n4,n5⟩:=opN hb3 rfl))
            all_goals (go_ret;exact ⟨congrArg (fun b=>Ending.returned (.bool b)) (Key.out _ (fun h=>by first|rfl|exact absurd h b1) (fun h=>by first|exact absurd b1 h|simp [*])),hz.trans (hb3.mono (by simp))⟩))
         ·go_enter Tryz.func123,Tryz.ntmps123
          go_wp2_with (first
           | (go_at_call 204;refine (Hk.out _).mono ?_;rintro e w1 ⟨rfl,rfl⟩)
           | (go_at_call 133;refine (Hc.out _).mono ?_;rintro e w2 ⟨rfl,rfl⟩)
           | (go_at_call 124;refine (keyG _ _ _ _ _ _ hcl hck _).mono ?_;rintro e w3 ⟨rfl,hb3⟩;obtain ⟨n0,n4,n5⟩:=opN hb3 rfl))
          all_goals (go_ret;exact ⟨congrArg (fun b=>Ending.returned (.bool b)) (Key.out _ (fun h=>by first|rfl|exact absurd h b1) (fun h=>by first|exact absurd b1 h|simp [*])),hz.trans (hb3.mono (by simp))⟩)
def vnF:Nat→Nat→List Int
 | 0,n=>[(n:Int)]
 | k+1,n=>if n<128 then [(n:Int)] else (128+(n:Int) % 128)::vnF k (n / 128)
theorem vnF_same:∀ k m n,n≤k→n≤m→vnF k n=vnF m n:=by
  intro k
  induction k with
  | zero => intro m n h1 h2; obtain rfl : n = 0 := by omega
            cases m with
            | zero=>rfl
            | succ m=>rw [vnF,vnF,if_pos (by omega)]
  | succ k ih=>
    intro m n h1 h2
    cases m with
    | zero => obtain rfl : n = 0 := by omega
              rw [vnF,vnF,if_pos (by omega)]
    | succ m=>
      rw [vnF,vnF]
      split
      · rfl
      · rw [ih m (n / 128) (by omega) (by omega)]
def vn (n:Nat):List Int:=vnF n n
theorem vn_lt {n:Nat} (h:n<128):vn n=[(n:Int)]:=by
 unfold vn
 cases n with
 | zero=>rfl
 | succ n=>rw [vnF,if_pos h]
theorem vn_ge {n:Nat} (h:¬ n<128):vn n=(128+(n:Int) % 128)::vn (n / 128):=by
 unfold vn
 cases n with
 | zero=>omega
 | succ n=>rw [vnF,if_neg h,vnF_same n ((n+1) / 128) ((n+1) / 128) (by omega) (Nat.le_refl _)]
theorem vn_size (k:Nat):∀ n,n<128 ^ (k+1)→1≤(vn n).length∧(vn n).length≤k+1:=by
 induction k with
 | zero=>intro n h;rw [vn_lt (by omega)];simp
 | succ k ih=>
  intro n h
  by_cases hn:n<128
  ·rw [vn_lt hn];simp
  ·rw [vn_ge hn,List.length_cons]
   have:=ih (n / 128) (by rw [Nat.pow_succ] at h;omega)
   omega
def Byt (l:List Int):Prop:=∀ x∈l,0≤x∧x<256
structure Opn where
 kd:Int
 cl:Int
 ck:Int
 st:Int
 rf:Int
 ch:Int
def opB (o:Opn):List Int:=o.kd::(vn o.cl.toNat++(vn o.ck.toNat++(vn o.st.toNat++(vn o.rf.toNat++if o.kd=1 then vn o.ch.toNat else []))))
structure OpW (o:Opn):Prop where
 kd:0≤o.kd∧o.kd<256
 cl:0≤o.cl∧o.cl≤1048575
 ck:0≤o.ck∧o.ck≤1048575
 st:0≤o.st∧o.st≤1073741823
 rf:0≤o.rf∧o.rf≤1099511627775
 ch:0≤o.ch∧o.ch≤1114111∧(o.kd≠1→o.ch=0)
theorem WOk.grown {w w':World} {wd:Nat} {R:Nat→Int} {vP vH:Value} {F:Nat→Prop} {hs:List Nat} (h:WOk w wd R vP vH F hs) (hb:Below w.heap.size w w'):WOk w' wd R vP vH F hs:=
 ⟨h.row.below hb h.row.lt,own_below h.own hb,fun x hx=>by
   obtain ⟨m,a,b,c,k⟩:=h.holds x hx
   exact ⟨m,a,b,c,k.frame fun y hy=>hb.block y (h.below y hy)⟩,h.apart,fun b hy=>Nat.lt_of_lt_of_le (h.below b hy) hb.size⟩
section
variable {w w1 w' : World} {wd : Nat} {vP vH : Value} {hs : List Nat}
end
section
variable {w w1 w2 w3 wk w' : World} {wd : Nat} {vP vH : Value} {hs : List Nat} {F : Nat → Prop} {hb : Nat} {vb vo vl : Value} {mk : Int} {n1 n2 n3 : Nat} {vH' : Value} {hs' : List Nat} {g : Nat} {V1 V2 V3 : Value} {ls : List Value}
theorem hold_pre (h:WOk w wd RV vP vH F hs) (hB:Below w.heap.size w w1) (o:Obj) (hk:wk=w1.alloc o) (ho:∀ b,ownX vb vo vl b→w.heap.size≤b∧b<w1.heap.size) :
  Pre wk wd RV vP vH F hs w1.heap.size vb vo vl∧(∀ b,b=w1.heap.size∨ownX vb vo vl b→w.heap.size≤b)∧Below w.heap.size w wk:=by
 subst hk
 have hs1:=hB.size
 have hB2:Below w.heap.size w (w1.alloc o):=hB.alloc hs1 o
 have hz:(w1.alloc o).heap.size=w1.heap.size+1:=by simp
 have key:∀ b,b=w1.heap.size∨ownX vb vo vl b→w.heap.size≤b∧b<(w1.alloc o).heap.size:=fun b e=>by
  rcases e with e|e
  ·omega
  ·have:=ho b e;omega
 refine ⟨⟨h.grown hB2,fun b e=>?_⟩,fun b e=>(key b e).1,hB2⟩
 obtain ⟨k1,k2⟩:=key b e
 exact ⟨k2,fun e1=>by have:=h.below b e1;omega,fun e1=>by have:=h.row.lt;omega,fun e1=>by have:=(h.own.lt b e1).2;omega⟩
end
end Go.Proofs.YtgccjefbedpmpaaGreatDoor

import Derived.Test.YtgccjefbedpmpaaGreatDoorXRef2
namespace Go.Proofs.YtgccjefbedpmpaaGreatDoor
open Go.RowKit
set_option maxRecDepth 100000
set_option maxHeartbeats 8000000
theorem opB_len {o:Opn} (h:OpW o):(opB o).length≤21:=by
 have h1:=(vn_size 2 o.cl.toNat (by have:=h.cl;omega)).2
 have h2:=(vn_size 2 o.ck.toNat (by have:=h.ck;omega)).2
 have h3:=(vn_size 4 o.st.toNat (by have:=h.st;omega)).2
 have h4:=(vn_size 5 o.rf.toNat (by have:=h.rf;omega)).2
 have h5:=(vn_size 2 o.ch.toNat (by have:=h.ch;omega)).2
 unfold opB
 split<;>simp only [List.length_cons,List.length_append,List.length_nil]<;>omega
theorem son2 (l:List Int):strOfNums (2::l)={ data:=#[2] }++strOfNums l:=by
 rw [show (2:Int)::l=[2]++l from rfl,son_app]
 rfl
theorem know_sz {o:Opn} (h:OpW o):(strOfNums (keyBy o.key)).size≤140737488355328∧(strOfNums (opB o)).size≤21:=by
 rw [strOfNums_size,strOfNums_size]
 exact ⟨by simp [keyBy],opB_len h⟩
theorem know_some (g cap:Nat) (os:List Opn) (o:Opn) (w:World) (hO:OwnK w 0 (.slice (some ⟨g,0,none⟩) os.length cap) os) (hs:ByKey os) (hc:∀ x∈os,KeyT x) (ho:OpW o) (hkd:o.kd=1∨o.kd=2) (hn:os.length≤1000):Calls Tryz.prog 212 #[.agg (rowOf 72 fun j=>.int .u32 (RV j)),.slice (some ⟨g,0,none⟩) os.length cap,.agg #[.int .i64 o.kd,.int .u32 o.cl,.int .u32 o.ck,.int .u32 o.st,.int .u64 o.rf,.int .i32 o.ch]] w fun e w'=>(∃ v,e=.returned v∧OwnK w' w.heap.size v (putK o os))∧Below w.heap.size w w':=by
 obtain ⟨ik,ki,kz0,kz1,kz2⟩:=info_parts infoKn
 obtain ⟨iu,ui,uz0,uz1,uz2⟩:=info_parts infoB
 have hcp:os.length≤cap:=by
  rcases hO.2 with ⟨e,_⟩|⟨g',cap',cur,e,_,_,h,_⟩
  ·cases e
  ·cases e;exact h
 have hgl:g<w.heap.size:=(World.ownsRow.lt hO g rfl).2
 have HA:=hid2 (OwnK.at0 hO)
 have HC:=hid2 hc
 have HS:=hid2 hs
 have HW:=hid2 (And.intro ho hkd)
 have HK:Hid (KeyT o):=⟨⟨by have:=ho.cl;omega,by have:=ho.cl;omega⟩,⟨by have:=ho.ck;omega,by have:=ho.ck;omega⟩⟩
 have H0:=hid2 (KnB.new w o)
 have HSZ:=hid2 (know_sz ho)
 clear hO hc hs ho hkd
 go_enter Tryz.func212,Tryz.ntmps212
 go_wp2_with (go_at_call 124;refine (keyG _ _ _ _ _ _ HK.out.1 HK.out.2 _).mono ?_;rintro e w1 ⟨rfl,hb1⟩;have H1:=hid2 (H0.out.kept hb1);clear H0 hb1)
 go_loopw [7] (fun iv wr=>∃ n:Nat,n≤os.length∧iv=.int .i64 n∧Hid (∀ i (h:i<os.length),i<n→os[i].key<o.key)∧Hid (KnB w wr o)) (fun iv _=>os.length-(intOf iv).toNat)
 case atStart=>exact ⟨0,Nat.zero_le _,rfl,fun i _ h=>absurd h (Nat.not_lt_zero _),H1⟩
 case round=>
  obtain ⟨n,hnl,rfl,HL,HB⟩:=hrel
  clear H1
  by_cases hlt:n<os.length
  ·have li:(n:Int)<(os.length:Int):=by omega
   have hcs:=(HA.out.below HB.out.below).cells hlt
   simp only [Nat.zero_add] at hcs
   obtain ⟨c0,c1,c2,c3,c4,c5⟩:=hcs
   have HKn:=hid2 (HC.out _ (List.getElem_mem hlt))
   by_cases hk:os[n].cl*1048576+os[n].ck<o.cl*1048576+o.ck
   ·have HN:=hid2 hk
    go_wp2_with (go_at_call 124;refine (keyG _ _ _ _ _ _ HKn.out.1 HKn.out.2 _).mono ?_;rintro e w1 ⟨rfl,hb1⟩;have HT:=hid2 (HB.out.kept hb1);clear hb1)
    go_roundw
    case rel=>exact ⟨n+1,hlt,by go_num,(fun j hj h=>(by
     rcases Nat.lt_or_ge j n with q|q
     ·exact HL.out j hj q
     ·have:j=n:=by omega
      subst this
      exact HN.out):Hid _),HT⟩
    case measure=>simp [intOf];omega
   ·have HE:Hid (os.take n++([o]++os.drop n)=putK o os):=putK_at HS.out hnl HL.out fun _=>hk
    go_wp2_with (go_at_call 124;refine (keyG _ _ _ _ _ _ HKn.out.1 HKn.out.2 _).mono ?_;rintro e w2 ⟨rfl,hb1⟩;have HT:=hid2 (HB.out.kept hb1);clear hb1 HB)
    clear c0 c1 c2 c3 c4 c5 hk HKn
    go_loopw [9,10] (fun bv xv wr=>∃ (i:Nat) (bb:Value),i≤8∧bv=bb∧xv=.int .i64 (56-8*(i:Int))∧Hid (AppG 5 1 w2 wr bb i (u8s ((keyBy o.key).take i)))) (fun _ xv _=>(intOf xv+8).toNat)
    case atStart=>exact ⟨0,_,Nat.zero_le _,rfl,rfl,hid2 (AppG.start _ _ _)⟩
    case round=>
     obtain ⟨i,bb,hi8,hbb,rfl,HG⟩:=hrel
     obtain rfl:=hbb.symm
     clear hbb
     by_cases h8:i=8
     ·subst h8
      rw [show (56-8*((8:Nat):Int))=-8 from rfl]
      have HCV:=hid2 (conv_own (B:=w2.heap.size) (L:=keyBy o.key) HG.out.own)
      have hcv:=HCV.out
      clear HCV
      go_wp2_with (first
       | (refine wpList_load_mid rfl 80 (.tmp 3) rfl w.heap.size 0 rfl _ _ (range72 (HT.out.app HG.out.below).roots) Tryz.underlying80 rfl (by rw [Array.length_toList,rowOf_size];exact info30) ?_;simp only [Array.toArray_toList])
       | (go_at_call 125;refine (rsum_any _ HSZ.out.1 _).mono ?_;rintro e w5 ⟨rfl,hb5⟩;have h32:=rsumOf_size (strOfNums (keyBy o.key));generalize hRR:rsumOf (strOfNums (keyBy o.key))=RR at h32 ⊢;have HRR:=hid2 hRR;have HB5:=hid2 (HG.out.below.trans (hb5.mono HG.out.below.size));obtain ⟨q0,q1,q2,q3,q4,q5⟩:=boxCells (HT.out.app HB5.out).box;clear hRR hb5 hcv HG)
       | (go_at_call 74;refine (rbytes_any o HW.out.1 HW.out.2 _).mono ?_;rintro e w6 ⟨rfl,hb6⟩;have hTs:=HSZ.out.2;generalize hTT:strOfNums (opB o)=TT at hTs ⊢;have HTT:=hid2 hTT;have HB6:=hid2 (HB5.out.trans (hb6.mono HB5.out.size));clear hTT hb6 HB5 q0 q1 q2 q3 q4 q5)
       | (at_builtin;refine wpList_append_any rfl (.tmp 50) (.tmp 53) 152 rfl _ 157 ik _ 8 72 Tryz.underlying152 ki kz0 kz1 kz2 rfl (by decide) (.slice none 0 0) 0 [] rfl (AppG.start _ _ _).own (some ⟨g,0,none⟩) n cap (knCs (os.take n)) rfl (by rw [knCs_len,List.length_take];omega) (Or.inr ⟨_,rfl,kns_take ((HA.out.below HT.out.below).below HB6.out) n⟩) (knCs_one _) (by unfold maxLen;omega) (by omega) (Nat.le_refl _) ?_;intro v7 w7 ho7 hg7 hv7;have H7:=hid2 ((AppG.start _ _ _).app ho7 hg7);clear ho7 hg7 hv7))
      have hTs2:1+TT.size≤9223372036854775807:=by omega
      refine wp_region_held_drew (S:=fun W=>KnB w W o) (by kernel_rfl) ((HT.out.app (HB6.out.trans (H7.out.below.mono HB6.out.size))).kept (Below.refl _ _).drew) (fun hHeld=>?_)
      have HD7:=hid2 (H7.out.kept (Below.refl _ _).drew)
      clear H7
      generalize w7.drew=wD at HD7 hHeld ⊢
      refine tk0 0 55 ?_
      refine tkf 1 56 (fun _ h=>boxCells h.box) ?_
      refine tk0 2 57 ?_
      refine tk 3 58 rfl (yieldsIf_load_mid (by rfl) 80 (.tmp 3) rfl w.heap.size 0 rfl (rowOf 72 fun j=>.int .u32 (RV j)).toList _ (fun _ h=>range72 h.roots) Tryz.underlying80 rfl (by rw [Array.length_toList,rowOf_size];exact info30)) hHeld ?_
      simp only [Act.put,ls1,ls2,ls3,Array.toArray_toList]
      refine tk0 4 59 ?_
      refine tk 5 60 rfl (Or.inl ⟨by rfl,fun w _=>by go_simp;rw [if_neg (Nat.not_lt.2 hTs2)]⟩) hHeld ?_
      simp only [Act.put,ls1,ls2,ls3]
      refine rd 6 (some 61) rfl (fun K hK=>?_)
      go_simp
      refine (short_any _ (by rw [ByteArray.size_append,show ({ data:=#[2] }:ByteArray).size=1 from rfl];omega) _).mono ?_
      rintro e w8 ⟨rfl,hb8⟩
      generalize hDD:(rsumOf _).extract 0 3=DD
      have HDD:=hid2 hDD
      have H8:=hid2 (HD7.out.kept hb8)
      refine hK.out _ _ (hHeld.kept hb8) (fun hHeld=>?_)
      clear hK K hDD hb8 HD7
      refine tk0 7 62 ?_
      refine rd 8 (some 63) rfl (fun K hK=>?_)
      go_simp
      refine hK.out _ _ (hHeld.kept (below1' _ _)) (fun hHeld=>?_)
      clear hK K
      refine rd 9 (some 64) rfl (fun K hK=>?_)
      rw [if_pos (by rfl)]
      refine wp_append_any (.tmp 55) (.tmp 63) 152 rfl _ 157 ik _ 8 72 Tryz.underlying152 ki kz0 kz1 kz2 rfl (by decide) v7 _ _ rfl (H8.out.alloc _).own (some ⟨w8.heap.size,0,none⟩) 1 1 (kn8 o (RR.extract 0 8) DD) rfl rfl (Or.inr ⟨_,rfl,World.news_of_block (heap_alloc_new w8 _)⟩) (by simp [kn8,Value.oneCell']) (by unfold maxLen;omega) (by omega) (H8.out.alloc _).below.size ?_
      intro v9 w9 ho9 hg9 hv9
      have H9:=hid2 ((H8.out.alloc _).app ho9 hg9)
      refine hK.out _ _ (HT.out.app (HB6.out.trans (H9.out.below.mono HB6.out.size))) (fun hHeld=>?_)
      clear hK K ho9 hg9 hv9 H8
      refine rdg 10 (some 13) ?_
      refine wdn ?_
      clear hHeld
      rw [show RR.extract 0 8=rkS o by rw [← HRR.out];rfl,show DD=dgS o by rw [← HDD.out,short_chk,← HTT.out,← son2];rfl] at H9
      go_wp2_with (first
       | (at_builtin;refine wpList_append_any rfl (.tmp 65) (.tmp 68) 152 rfl _ 157 ik _ 8 72 Tryz.underlying152 ki kz0 kz1 kz2 rfl (by decide) v9 _ _ rfl H9.out.own (some ⟨g,n*8,none⟩) (os.length-n) (cap-n) (knCs (os.drop n)) rfl (by rw [knCs_len,List.length_drop]) (Or.inr ⟨_,rfl,kns_drop (((HA.out.below HT.out.below).below HB6.out).below H9.out.below) n⟩) (knCs_one _) (by unfold maxLen;omega) (by omega) H9.out.below.size ?_;intro v10 w10 ho10 hg10 hv10;have H10:=hid2 (H9.out.app ho10 hg10);clear ho10 hg10 hv10))
      go_ret
      exact ⟨⟨_,rfl,H10.out.ownK (Nat.le_trans HT.out.below.size HB6.out.size) (by rw [← HE.out];simp;omega) (by rw [← HE.out,knCs_app,knCs_app,List.nil_append,List.append_assoc];rfl)⟩,HT.out.below.trans ((HB6.out.trans (H10.out.below.mono HB6.out.size)).mono HT.out.below.size)⟩
     ·have hcase:i=0∨i=1∨i=2∨i=3∨i=4∨i=5∨i=6∨i=7:=by omega
      rcases hcase with rfl|rfl|rfl|rfl|rfl|rfl|rfl|rfl
      all_goals
       first|rw [show (56-8*((0:Nat):Int))=56 from rfl]|rw [show (56-8*((1:Nat):Int))=48 from rfl]|rw [show (56-8*((2:Nat):Int))=40 from rfl]|rw [show (56-8*((3:Nat):Int))=32 from rfl]|rw [show (56-8*((4:Nat):Int))=24 from rfl]|rw [show (56-8*((5:Nat):Int))=16 from rfl]|rw [show (56-8*((6:Nat):Int))=8 from rfl]|rw [show (56-8*((7:Nat):Int))=0 from rfl]
       go_wp2_with (at_builtin;refine wpList_append_any rfl (.tmp 36) (.tmp 41) 59 rfl _ 5 iu _ 1 1 Tryz.underlying59 ui uz0 uz1 uz2 rfl (by decide) bb _ _ rfl (HG.out.alloc _).own (some ⟨wr.heap.size,0,none⟩) 1 1 [.int .u8 _] rfl rfl (Or.inr ⟨_,rfl,World.news_of_block (heap_alloc_new wr _)⟩) (by simp [Value.oneCell']) (by unfold maxLen;omega) (by omega) (HG.out.alloc _).below.size ?_;intro v3 w3 ho3 hg3 hv3;have HG3:=hid2 ((HG.out.alloc _).app ho3 hg3);clear ho3 hg3 hv3)
       go_roundw
       case rel=>first|exact ⟨1,_,by omega,rfl,rfl,HG3⟩|exact ⟨2,_,by omega,rfl,rfl,HG3⟩|exact ⟨3,_,by omega,rfl,rfl,HG3⟩|exact ⟨4,_,by omega,rfl,rfl,HG3⟩|exact ⟨5,_,by omega,rfl,rfl,HG3⟩|exact ⟨6,_,by omega,rfl,rfl,HG3⟩|exact ⟨7,_,by omega,rfl,rfl,HG3⟩|exact ⟨8,_,by omega,rfl,rfl,by rw [show (o.cl*1048576+o.ck) % 256=(o.cl*1048576+o.ck) / 1 % 256 by rw [Int.ediv_one]] at HG3;exact HG3⟩
       case measure=>simp [intOf]
  ·obtain rfl:n=os.length:=by omega
   have HE:Hid (os.take os.length++([o]++os.drop os.length)=putK o os):=putK_at HS.out hnl HL.out fun h=>absurd h (Nat.lt_irrefl _)
   have HT:=HB
   clear HB
   generalize wr=w2 at HT ⊢
   rcases Nat.lt_or_ge os.length cap with hcq|hcq
   ·go_wp2_with fail
    go_loopw [9,10] (fun bv xv wr=>∃ (i:Nat) (bb:Value),i≤8∧bv=bb∧xv=.int .i64 (56-8*(i:Int))∧Hid (AppG 5 1 w2 wr bb i (u8s ((keyBy o.key).take i)))) (fun _ xv _=>(intOf xv+8).toNat)
    case atStart=>exact ⟨0,_,Nat.zero_le _,rfl,rfl,hid2 (AppG.start _ _ _)⟩
    case round=>
     obtain ⟨i,bb,hi8,hbb,rfl,HG⟩:=hrel
     obtain rfl:=hbb.symm
     clear hbb
     by_cases h8:i=8
     ·subst h8
      rw [show (56-8*((8:Nat):Int))=-8 from rfl]
      have HCV:=hid2 (conv_own (B:=w2.heap.size) (L:=keyBy o.key) HG.out.own)
      have hcv:=HCV.out
      clear HCV
      go_wp2_with (first
       | (refine wpList_load_mid rfl 80 (.tmp 3) rfl w.heap.size 0 rfl _ _ (range72 (HT.out.app HG.out.below).roots) Tryz.underlying80 rfl (by rw [Array.length_toList,rowOf_size];exact info30) ?_;simp only [Array.toArray_toList])
       | (go_at_call 125;refine (rsum_any _ HSZ.out.1 _).mono ?_;rintro e w5 ⟨rfl,hb5⟩;have h32:=rsumOf_size (strOfNums (keyBy o.key));generalize hRR:rsumOf (strOfNums (keyBy o.key))=RR at h32 ⊢;have HRR:=hid2 hRR;have HB5:=hid2 (HG.out.below.trans (hb5.mono HG.out.below.size));obtain ⟨q0,q1,q2,q3,q4,q5⟩:=boxCells (HT.out.app HB5.out).box;clear hRR hb5 hcv HG)
       | (go_at_call 74;refine (rbytes_any o HW.out.1 HW.out.2 _).mono ?_;rintro e w6 ⟨rfl,hb6⟩;have hTs:=HSZ.out.2;generalize hTT:strOfNums (opB o)=TT at hTs ⊢;have HTT:=hid2 hTT;have HB6:=hid2 (HB5.out.trans (hb6.mono HB5.out.size));clear hTT hb6 HB5 q0 q1 q2 q3 q4 q5)
       | (at_builtin;refine wpList_append_any rfl (.tmp 50) (.tmp 53) 152 rfl _ 157 ik _ 8 72 Tryz.underlying152 ki kz0 kz1 kz2 rfl (by decide) (.slice none 0 0) 0 [] rfl (AppG.start _ _ _).own (some ⟨g,0,none⟩) os.length cap (knCs (os.take os.length)) rfl (by rw [knCs_len,List.length_take];omega) (Or.inr ⟨_,rfl,kns_take ((HA.out.below HT.out.below).below HB6.out) os.length⟩) (knCs_one _) (by unfold maxLen;omega) (by omega) (Nat.le_refl _) ?_;intro v7 w7 ho7 hg7 hv7;have H7:=hid2 ((AppG.start _ _ _).app ho7 hg7);clear ho7 hg7 hv7))
      have hTs2:1+TT.size≤9223372036854775807:=by omega
      refine wp_region_held_drew (S:=fun W=>KnB w W o) (by kernel_rfl) ((HT.out.app (HB6.out.trans (H7.out.below.mono HB6.out.size))).kept (Below.refl _ _).drew) (fun hHeld=>?_)
      have HD7:=hid2 (H7.out.kept (Below.refl _ _).drew)
      clear H7
      generalize w7.drew=wD at HD7 hHeld ⊢
      refine tk0 0 55 ?_
      refine tkf 1 56 (fun _ h=>boxCells h.box) ?_
      refine tk0 2 57 ?_
      refine tk 3 58 rfl (yieldsIf_load_mid (by rfl) 80 (.tmp 3) rfl w.heap.size 0 rfl (rowOf 72 fun j=>.int .u32 (RV j)).toList _ (fun _ h=>range72 h.roots) Tryz.underlying80 rfl (by rw [Array.length_toList,rowOf_size];exact info30)) hHeld ?_
      simp only [Act.put,ls1,ls2,ls3,Array.toArray_toList]
      refine tk0 4 59 ?_
      refine tk 5 60 rfl (Or.inl ⟨by rfl,fun w _=>by go_simp;rw [if_neg (Nat.not_lt.2 hTs2)]⟩) hHeld ?_
      simp only [Act.put,ls1,ls2,ls3]
      refine rd 6 (some 61) rfl (fun K hK=>?_)
      go_simp
      refine (short_any _ (by rw [ByteArray.size_append,show ({ data:=#[2] }:ByteArray).size=1 from rfl];omega) _).mono ?_
      rintro e w8 ⟨rfl,hb8⟩
      generalize hDD:(rsumOf _).extract 0 3=DD
      have HDD:=hid2 hDD
      have H8:=hid2 (HD7.out.kept hb8)
      refine hK.out _ _ (hHeld.kept hb8) (fun hHeld=>?_)
      clear hK K hDD hb8 HD7
      refine tk0 7 62 ?_
      refine rd 8 (some 63) rfl (fun K hK=>?_)
      go_simp
      refine hK.out _ _ (hHeld.kept (below1' _ _)) (fun hHeld=>?_)
      clear hK K
      refine rd 9 (some 64) rfl (fun K hK=>?_)
      rw [if_pos (by rfl)]
      refine wp_append_any (.tmp 55) (.tmp 63) 152 rfl _ 157 ik _ 8 72 Tryz.underlying152 ki kz0 kz1 kz2 rfl (by decide) v7 _ _ rfl (H8.out.alloc _).own (some ⟨w8.heap.size,0,none⟩) 1 1 (kn8 o (RR.extract 0 8) DD) rfl rfl (Or.inr ⟨_,rfl,World.news_of_block (heap_alloc_new w8 _)⟩) (by simp [kn8,Value.oneCell']) (by unfold maxLen;omega) (by omega) (H8.out.alloc _).below.size ?_
      intro v9 w9 ho9 hg9 hv9
      have H9:=hid2 ((H8.out.alloc _).app ho9 hg9)
      refine hK.out _ _ (HT.out.app (HB6.out.trans (H9.out.below.mono HB6.out.size))) (fun hHeld=>?_)
      clear hK K ho9 hg9 hv9 H8
      refine rdg 10 (some 13) ?_
      refine wdn ?_
      clear hHeld
      rw [show RR.extract 0 8=rkS o by rw [← HRR.out];rfl,show DD=dgS o by rw [← HDD.out,short_chk,← HTT.out,← son2];rfl] at H9
      go_wp2_with (first
       | (at_builtin;refine wpList_append_any rfl (.tmp 65) (.tmp 68) 152 rfl _ 157 ik _ 8 72 Tryz.underlying152 ki kz0 kz1 kz2 rfl (by decide) v9 _ _ rfl H9.out.own (some ⟨g,os.length*8,none⟩) 0 (cap-os.length) [] rfl rfl (Or.inr ⟨_,rfl,fun j u h=>(by cases h)⟩) (fun u h=>(by cases h)) (by unfold maxLen;omega) (by omega) H9.out.below.size ?_;intro v10 w10 ho10 hg10 hv10;have H10:=hid2 (H9.out.app ho10 hg10);clear ho10 hg10 hv10))
      go_ret
      exact ⟨⟨_,rfl,H10.out.ownK (Nat.le_trans HT.out.below.size HB6.out.size) (by rw [← HE.out];simp) (by rw [← HE.out,knCs_app,knCs_app,List.nil_append,List.drop_length];simp [knCs])⟩,HT.out.below.trans ((HB6.out.trans (H10.out.below.mono HB6.out.size)).mono HT.out.below.size)⟩
     ·have hcase:i=0∨i=1∨i=2∨i=3∨i=4∨i=5∨i=6∨i=7:=by omega
      rcases hcase with rfl|rfl|rfl|rfl|rfl|rfl|rfl|rfl
      all_goals
       first|rw [show (56-8*((0:Nat):Int))=56 from rfl]|rw [show (56-8*((1:Nat):Int))=48 from rfl]|rw [show (56-8*((2:Nat):Int))=40 from rfl]|rw [show (56-8*((3:Nat):Int))=32 from rfl]|rw [show (56-8*((4:Nat):Int))=24 from rfl]|rw [show (56-8*((5:Nat):Int))=16 from rfl]|rw [show (56-8*((6:Nat):Int))=8 from rfl]|rw [show (56-8*((7:Nat):Int))=0 from rfl]
       go_wp2_with (at_builtin;refine wpList_append_any rfl (.tmp 36) (.tmp 41) 59 rfl _ 5 iu _ 1 1 Tryz.underlying59 ui uz0 uz1 uz2 rfl (by decide) bb _ _ rfl (HG.out.alloc _).own (some ⟨wr.heap.size,0,none⟩) 1 1 [.int .u8 _] rfl rfl (Or.inr ⟨_,rfl,World.news_of_block (heap_alloc_new wr _)⟩) (by simp [Value.oneCell']) (by unfold maxLen;omega) (by omega) (HG.out.alloc _).below.size ?_;intro v3 w3 ho3 hg3 hv3;have HG3:=hid2 ((HG.out.alloc _).app ho3 hg3);clear ho3 hg3 hv3)
       go_roundw
       case rel=>first|exact ⟨1,_,by omega,rfl,rfl,HG3⟩|exact ⟨2,_,by omega,rfl,rfl,HG3⟩|exact ⟨3,_,by omega,rfl,rfl,HG3⟩|exact ⟨4,_,by omega,rfl,rfl,HG3⟩|exact ⟨5,_,by omega,rfl,rfl,HG3⟩|exact ⟨6,_,by omega,rfl,rfl,HG3⟩|exact ⟨7,_,by omega,rfl,rfl,HG3⟩|exact ⟨8,_,by omega,rfl,rfl,by rw [show (o.cl*1048576+o.ck) % 256=(o.cl*1048576+o.ck) / 1 % 256 by rw [Int.ediv_one]] at HG3;exact HG3⟩
       case measure=>simp [intOf]
   ·obtain rfl:os.length=cap:=by omega
    go_wp2_with fail
    go_loopw [9,10] (fun bv xv wr=>∃ (i:Nat) (bb:Value),i≤8∧bv=bb∧xv=.int .i64 (56-8*(i:Int))∧Hid (AppG 5 1 w2 wr bb i (u8s ((keyBy o.key).take i)))) (fun _ xv _=>(intOf xv+8).toNat)
    case atStart=>exact ⟨0,_,Nat.zero_le _,rfl,rfl,hid2 (AppG.start _ _ _)⟩
    case round=>
     obtain ⟨i,bb,hi8,hbb,rfl,HG⟩:=hrel
     obtain rfl:=hbb.symm
     clear hbb
     by_cases h8:i=8
     ·subst h8
      rw [show (56-8*((8:Nat):Int))=-8 from rfl]
      have HCV:=hid2 (conv_own (B:=w2.heap.size) (L:=keyBy o.key) HG.out.own)
      have hcv:=HCV.out
      clear HCV
      go_wp2_with (first
       | (refine wpList_load_mid rfl 80 (.tmp 3) rfl w.heap.size 0 rfl _ _ (range72 (HT.out.app HG.out.below).roots) Tryz.underlying80 rfl (by rw [Array.length_toList,rowOf_size];exact info30) ?_;simp only [Array.toArray_toList])
       | (go_at_call 125;refine (rsum_any _ HSZ.out.1 _).mono ?_;rintro e w5 ⟨rfl,hb5⟩;have h32:=rsumOf_size (strOfNums (keyBy o.key));generalize hRR:rsumOf (strOfNums (keyBy o.key))=RR at h32 ⊢;have HRR:=hid2 hRR;have HB5:=hid2 (HG.out.below.trans (hb5.mono HG.out.below.size));obtain ⟨q0,q1,q2,q3,q4,q5⟩:=boxCells (HT.out.app HB5.out).box;clear hRR hb5 hcv HG)
       | (go_at_call 74;refine (rbytes_any o HW.out.1 HW.out.2 _).mono ?_;rintro e w6 ⟨rfl,hb6⟩;have hTs:=HSZ.out.2;generalize hTT:strOfNums (opB o)=TT at hTs ⊢;have HTT:=hid2 hTT;have HB6:=hid2 (HB5.out.trans (hb6.mono HB5.out.size));clear hTT hb6 HB5 q0 q1 q2 q3 q4 q5)
       | (at_builtin;refine wpList_append_any rfl (.tmp 50) (.tmp 53) 152 rfl _ 157 ik _ 8 72 Tryz.underlying152 ki kz0 kz1 kz2 rfl (by decide) (.slice none 0 0) 0 [] rfl (AppG.start _ _ _).own (some ⟨g,0,none⟩) os.length os.length (knCs (os.take os.length)) rfl (by rw [knCs_len,List.length_take];omega) (Or.inr ⟨_,rfl,kns_take ((HA.out.below HT.out.below).below HB6.out) os.length⟩) (knCs_one _) (by unfold maxLen;omega) (by omega) (Nat.le_refl _) ?_;intro v7 w7 ho7 hg7 hv7;have H7:=hid2 ((AppG.start _ _ _).app ho7 hg7);clear ho7 hg7 hv7))
      have hTs2:1+TT.size≤9223372036854775807:=by omega
      refine wp_region_held_drew (S:=fun W=>KnB w W o) (by kernel_rfl) ((HT.out.app (HB6.out.trans (H7.out.below.mono HB6.out.size))).kept (Below.refl _ _).drew) (fun hHeld=>?_)
      have HD7:=hid2 (H7.out.kept (Below.refl _ _).drew)
      clear H7
      generalize w7.drew=wD at HD7 hHeld ⊢
      refine tk0 0 55 ?_
      refine tkf 1 56 (fun _ h=>boxCells h.box) ?_
      refine tk0 2 57 ?_
      refine tk 3 58 rfl (yieldsIf_load_mid (by rfl) 80 (.tmp 3) rfl w.heap.size 0 rfl (rowOf 72 fun j=>.int .u32 (RV j)).toList _ (fun _ h=>range72 h.roots) Tryz.underlying80 rfl (by rw [Array.length_toList,rowOf_size];exact info30)) hHeld ?_
      simp only [Act.put,ls1,ls2,ls3,Array.toArray_toList]
      refine tk0 4 59 ?_
      refine tk 5 60 rfl (Or.inl ⟨by rfl,fun w _=>by go_simp;rw [if_neg (Nat.not_lt.2 hTs2)]⟩) hHeld ?_
      simp only [Act.put,ls1,ls2,ls3]
      refine rd 6 (some 61) rfl (fun K hK=>?_)
      go_simp
      refine (short_any _ (by rw [ByteArray.size_append,show ({ data:=#[2] }:ByteArray).size=1 from rfl];omega) _).mono ?_
      rintro e w8 ⟨rfl,hb8⟩
      generalize hDD:(rsumOf _).extract 0 3=DD
      have HDD:=hid2 hDD
      have H8:=hid2 (HD7.out.kept hb8)
      refine hK.out _ _ (hHeld.kept hb8) (fun hHeld=>?_)
      clear hK K hDD hb8 HD7
      refine tk0 7 62 ?_
      refine rd 8 (some 63) rfl (fun K hK=>?_)
      go_simp
      refine hK.out _ _ (hHeld.kept (below1' _ _)) (fun hHeld=>?_)
      clear hK K
      refine rd 9 (some 64) rfl (fun K hK=>?_)
      rw [if_pos (by rfl)]
      refine wp_append_any (.tmp 55) (.tmp 63) 152 rfl _ 157 ik _ 8 72 Tryz.underlying152 ki kz0 kz1 kz2 rfl (by decide) v7 _ _ rfl (H8.out.alloc _).own (some ⟨w8.heap.size,0,none⟩) 1 1 (kn8 o (RR.extract 0 8) DD) rfl rfl (Or.inr ⟨_,rfl,World.news_of_block (heap_alloc_new w8 _)⟩) (by simp [kn8,Value.oneCell']) (by unfold maxLen;omega) (by omega) (H8.out.alloc _).below.size ?_
      intro v9 w9 ho9 hg9 hv9
      have H9:=hid2 ((H8.out.alloc _).app ho9 hg9)
      refine hK.out _ _ (HT.out.app (HB6.out.trans (H9.out.below.mono HB6.out.size))) (fun hHeld=>?_)
      clear hK K ho9 hg9 hv9 H8
      refine rdg 10 (some 13) ?_
      refine wdn ?_
      clear hHeld
      rw [show RR.extract 0 8=rkS o by rw [← HRR.out];rfl,show DD=dgS o by rw [← HDD.out,short_chk,← HTT.out,← son2];rfl] at H9
      go_wp2_with (first
       | (at_builtin;refine wpList_append_any rfl (.tmp 65) (.tmp 68) 152 rfl _ 157 ik _ 8 72 Tryz.underlying152 ki kz0 kz1 kz2 rfl (by decide) v9 _ _ rfl H9.out.own (some ⟨g,0,none⟩) 0 0 [] rfl rfl (Or.inr ⟨_,rfl,fun j u h=>(by cases h)⟩) (fun u h=>(by cases h)) (by unfold maxLen;omega) (by omega) H9.out.below.size ?_;intro v10 w10 ho10 hg10 hv10;have H10:=hid2 (H9.out.app ho10 hg10);clear ho10 hg10 hv10))
      go_ret
      exact ⟨⟨_,rfl,H10.out.ownK (Nat.le_trans HT.out.below.size HB6.out.size) (by rw [← HE.out];simp) (by rw [← HE.out,knCs_app,knCs_app,List.nil_append,List.drop_length];simp [knCs])⟩,HT.out.below.trans ((HB6.out.trans (H10.out.below.mono HB6.out.size)).mono HT.out.below.size)⟩
     ·have hcase:i=0∨i=1∨i=2∨i=3∨i=4∨i=5∨i=6∨i=7:=by omega
      rcases hcase with rfl|rfl|rfl|rfl|rfl|rfl|rfl|rfl
      all_goals
       first|rw [show (56-8*((0:Nat):Int))=56 from rfl]|rw [show (56-8*((1:Nat):Int))=48 from rfl]|rw [show (56-8*((2:Nat):Int))=40 from rfl]|rw [show (56-8*((3:Nat):Int))=32 from rfl]|rw [show (56-8*((4:Nat):Int))=24 from rfl]|rw [show (56-8*((5:Nat):Int))=16 from rfl]|rw [show (56-8*((6:Nat):Int))=8 from rfl]|rw [show (56-8*((7:Nat):Int))=0 from rfl]
       go_wp2_with (at_builtin;refine wpList_append_any rfl (.tmp 36) (.tmp 41) 59 rfl _ 5 iu _ 1 1 Tryz.underlying59 ui uz0 uz1 uz2 rfl (by decide) bb _ _ rfl (HG.out.alloc _).own (some ⟨wr.heap.size,0,none⟩) 1 1 [.int .u8 _] rfl rfl (Or.inr ⟨_,rfl,World.news_of_block (heap_alloc_new wr _)⟩) (by simp [Value.oneCell']) (by unfold maxLen;omega) (by omega) (HG.out.alloc _).below.size ?_;intro v3 w3 ho3 hg3 hv3;have HG3:=hid2 ((HG.out.alloc _).app ho3 hg3);clear ho3 hg3 hv3)
       go_roundw
       case rel=>first|exact ⟨1,_,by omega,rfl,rfl,HG3⟩|exact ⟨2,_,by omega,rfl,rfl,HG3⟩|exact ⟨3,_,by omega,rfl,rfl,HG3⟩|exact ⟨4,_,by omega,rfl,rfl,HG3⟩|exact ⟨5,_,by omega,rfl,rfl,HG3⟩|exact ⟨6,_,by omega,rfl,rfl,HG3⟩|exact ⟨7,_,by omega,rfl,rfl,HG3⟩|exact ⟨8,_,by omega,rfl,rfl,by rw [show (o.cl*1048576+o.ck) % 256=(o.cl*1048576+o.ck) / 1 % 256 by rw [Int.ediv_one]] at HG3;exact HG3⟩
       case measure=>simp [intOf]
theorem know_nil (o:Opn) (w:World) (ho:OpW o) (hkd:o.kd=1∨o.kd=2):Calls Tryz.prog 212 #[.agg (rowOf 72 fun j=>.int .u32 (RV j)),.slice none 0 0,.agg #[.int .i64 o.kd,.int .u32 o.cl,.int .u32 o.ck,.int .u32 o.st,.int .u64 o.rf,.int .i32 o.ch]] w fun e w'=>(∃ v,e=.returned v∧OwnK w' w.heap.size v [o])∧Below w.heap.size w w':=by
 obtain ⟨ik,ki,kz0,kz1,kz2⟩:=info_parts infoKn
 obtain ⟨iu,ui,uz0,uz1,uz2⟩:=info_parts infoB
 have HW:=hid2 (And.intro ho hkd)
 have HK:Hid (KeyT o):=⟨⟨by have:=ho.cl;omega,by have:=ho.cl;omega⟩,⟨by have:=ho.ck;omega,by have:=ho.ck;omega⟩⟩
 have H0:=hid2 (KnB.new w o)
 have HSZ:=hid2 (know_sz ho)
 clear ho hkd
 go_enter Tryz.func212,Tryz.ntmps212
 go_wp2_with (go_at_call 124;refine (keyG _ _ _ _ _ _ HK.out.1 HK.out.2 _).mono ?_;rintro e w1 ⟨rfl,hb1⟩;have H1:=hid2 (H0.out.kept hb1);clear H0 hb1)
 go_loopw [7] (fun iv wr=>iv=.int .i64 0∧Hid (KnB w wr o)) (fun _ _=>0)
 case atStart=>exact ⟨rfl,H1⟩
 case round=>
  obtain ⟨rfl,HT⟩:=hrel
  clear H1
  generalize wr=w2 at HT ⊢
  go_wp2_with fail
  go_loopw [9,10] (fun bv xv wr=>∃ (i:Nat) (bb:Value),i≤8∧bv=bb∧xv=.int .i64 (56-8*(i:Int))∧Hid (AppG 5 1 w2 wr bb i (u8s ((keyBy o.key).take i)))) (fun _ xv _=>(intOf xv+8).toNat)
  case atStart=>exact ⟨0,_,Nat.zero_le _,rfl,rfl,hid2 (AppG.start _ _ _)⟩
  case round=>
   obtain ⟨i,bb,hi8,hbb,rfl,HG⟩:=hrel
   obtain rfl:=hbb.symm
   clear hbb
   by_cases h8:i=8
   ·subst h8
    rw [show (56-8*((8:Nat):Int))=-8 from rfl]
    have HCV:=hid2 (conv_own (B:=w2.heap.size) (L:=keyBy o.key) HG.out.own)
    have hcv:=HCV.out
    clear HCV
    go_wp2_with (first
     | (refine wpList_load_mid rfl 80 (.tmp 3) rfl w.heap.size 0 rfl _ _ (range72 (HT.out.app HG.out.below).roots) Tryz.underlying80 rfl (by rw [Array.length_toList,rowOf_size];exact info30) ?_;simp only [Array.toArray_toList])
     | (go_at_call 125;refine (rsum_any _ HSZ.out.1 _).mono ?_;rintro e w5 ⟨rfl,hb5⟩;have h32:=rsumOf_size (strOfNums (keyBy o.key));generalize hRR:rsumOf (strOfNums (keyBy o.key))=RR at h32 ⊢;have HRR:=hid2 hRR;have HB5:=hid2 (HG.out.below.trans (hb5.mono HG.out.below.size));obtain ⟨q0,q1,q2,q3,q4,q5⟩:=boxCells (HT.out.app HB5.out).box;clear hRR hb5 hcv HG)
     | (go_at_call 74;refine (rbytes_any o HW.out.1 HW.out.2 _).mono ?_;rintro e w6 ⟨rfl,hb6⟩;have hTs:=HSZ.out.2;generalize hTT:strOfNums (opB o)=TT at hTs ⊢;have HTT:=hid2 hTT;have HB6:=hid2 (HB5.out.trans (hb6.mono HB5.out.size));clear hTT hb6 HB5 q0 q1 q2 q3 q4 q5)
     | (at_builtin;refine wpList_append_any rfl (.tmp 50) (.tmp 53) 152 rfl _ 157 ik _ 8 72 Tryz.underlying152 ki kz0 kz1 kz2 rfl (by decide) (.slice none 0 0) 0 [] rfl (AppG.start _ _ _).own none 0 0 [] rfl rfl (Or.inl ⟨rfl,rfl⟩) (fun u h=>(by cases h)) (by unfold maxLen;omega) (by omega) (Nat.le_refl _) ?_;intro v7 w7 ho7 hg7 hv7;have H7:=hid2 ((AppG.start _ _ _).app ho7 hg7);clear ho7 hg7 hv7))
    have hTs2:1+TT.size≤9223372036854775807:=by omega
    refine wp_region_held_drew (S:=fun W=>KnB w W o) (by kernel_rfl) ((HT.out.app (HB6.out.trans (H7.out.below.mono HB6.out.size))).kept (Below.refl _ _).drew) (fun hHeld=>?_)
    have HD7:=hid2 (H7.out.kept (Below.refl _ _).drew)
    clear H7
    generalize w7.drew=wD at HD7 hHeld ⊢
    refine tk0 0 55 ?_
    refine tkf 1 56 (fun _ h=>boxCells h.box) ?_
    refine tk0 2 57 ?_
    refine tk 3 58 rfl (yieldsIf_load_mid (by rfl) 80 (.tmp 3) rfl w.heap.size 0 rfl (rowOf 72 fun j=>.int .u32 (RV j)).toList _ (fun _ h=>range72 h.roots) Tryz.underlying80 rfl (by rw [Array.length_toList,rowOf_size];exact info30)) hHeld ?_
    simp only [Act.put,ls1,ls2,ls3,Array.toArray_toList]
    refine tk0 4 59 ?_
    refine tk 5 60 rfl (Or.inl ⟨by rfl,fun w _=>by go_simp;rw [if_neg (Nat.not_lt.2 hTs2)]⟩) hHeld ?_
    simp only [Act.put,ls1,ls2,ls3]
    refine rd 6 (some 61) rfl (fun K hK=>?_)
    go_simp
    refine (short_any _ (by rw [ByteArray.size_append,show ({ data:=#[2] }:ByteArray).size=1 from rfl];omega) _).mono ?_
    rintro e w8 ⟨rfl,hb8⟩
    generalize hDD:(rsumOf _).extract 0 3=DD
    have HDD:=hid2 hDD
    have H8:=hid2 (HD7.out.kept hb8)
    refine hK.out _ _ (hHeld.kept hb8) (fun hHeld=>?_)
    clear hK K hDD hb8 HD7
    refine tk0 7 62 ?_
    refine rd 8 (some 63) rfl (fun K hK=>?_)
    go_simp
    refine hK.out _ _ (hHeld.kept (below1' _ _)) (fun hHeld=>?_)
    clear hK K
    refine rd 9 (some 64) rfl (fun K hK=>?_)
    rw [if_pos (by rfl)]
    refine wp_append_any (.tmp 55) (.tmp 63) 152 rfl _ 157 ik _ 8 72 Tryz.underlying152 ki kz0 kz1 kz2 rfl (by decide) v7 _ _ rfl (H8.out.alloc _).own (some ⟨w8.heap.size,0,none⟩) 1 1 (kn8 o (RR.extract 0 8) DD) rfl rfl (Or.inr ⟨_,rfl,World.news_of_block (heap_alloc_new w8 _)⟩) (by simp [kn8,Value.oneCell']) (by unfold maxLen;omega) (by omega) (H8.out.alloc _).below.size ?_
    intro v9 w9 ho9 hg9 hv9
    have H9:=hid2 ((H8.out.alloc _).app ho9 hg9)
    refine hK.out _ _ (HT.out.app (HB6.out.trans (H9.out.below.mono HB6.out.size))) (fun hHeld=>?_)
    clear hK K ho9 hg9 hv9 H8
    refine rdg 10 (some 13) ?_
    refine wdn ?_
    clear hHeld
    rw [show RR.extract 0 8=rkS o by rw [← HRR.out];rfl,show DD=dgS o by rw [← HDD.out,short_chk,← HTT.out,← son2];rfl] at H9
    go_wp2_with (first
     | (at_builtin;refine wpList_append_any rfl (.tmp 65) (.tmp 68) 152 rfl _ 157 ik _ 8 72 Tryz.underlying152 ki kz0 kz1 kz2 rfl (by decide) v9 _ _ rfl H9.out.own none 0 0 [] rfl rfl (Or.inl ⟨rfl,rfl⟩) (fun u h=>(by cases h)) (by unfold maxLen;omega) (by omega) H9.out.below.size ?_;intro v10 w10 ho10 hg10 hv10;have H10:=hid2 (H9.out.app ho10 hg10);clear ho10 hg10 hv10))
    go_ret
    exact ⟨⟨_,rfl,H10.out.ownK (Nat.le_trans HT.out.below.size HB6.out.size) rfl (by simp [knCs])⟩,HT.out.below.trans ((HB6.out.trans (H10.out.below.mono HB6.out.size)).mono HT.out.below.size)⟩
   ·have hcase:i=0∨i=1∨i=2∨i=3∨i=4∨i=5∨i=6∨i=7:=by omega
    rcases hcase with rfl|rfl|rfl|rfl|rfl|rfl|rfl|rfl
    all_goals
     first|rw [show (56-8*((0:Nat):Int))=56 from rfl]|rw [show (56-8*((1:Nat):Int))=48 from rfl]|rw [show (56-8*((2:Nat):Int))=40 from rfl]|rw [show (56-8*((3:Nat):Int))=32 from rfl]|rw [show (56-8*((4:Nat):Int))=24 from rfl]|rw [show (56-8*((5:Nat):Int))=16 from rfl]|rw [show (56-8*((6:Nat):Int))=8 from rfl]|rw [show (56-8*((7:Nat):Int))=0 from rfl]
     go_wp2_with (at_builtin;refine wpList_append_any rfl (.tmp 36) (.tmp 41) 59 rfl _ 5 iu _ 1 1 Tryz.underlying59 ui uz0 uz1 uz2 rfl (by decide) bb _ _ rfl (HG.out.alloc _).own (some ⟨wr.heap.size,0,none⟩) 1 1 [.int .u8 _] rfl rfl (Or.inr ⟨_,rfl,World.news_of_block (heap_alloc_new wr _)⟩) (by simp [Value.oneCell']) (by unfold maxLen;omega) (by omega) (HG.out.alloc _).below.size ?_;intro v3 w3 ho3 hg3 hv3;have HG3:=hid2 ((HG.out.alloc _).app ho3 hg3);clear ho3 hg3 hv3)
     go_roundw
     case rel=>first|exact ⟨1,_,by omega,rfl,rfl,HG3⟩|exact ⟨2,_,by omega,rfl,rfl,HG3⟩|exact ⟨3,_,by omega,rfl,rfl,HG3⟩|exact ⟨4,_,by omega,rfl,rfl,HG3⟩|exact ⟨5,_,by omega,rfl,rfl,HG3⟩|exact ⟨6,_,by omega,rfl,rfl,HG3⟩|exact ⟨7,_,by omega,rfl,rfl,HG3⟩|exact ⟨8,_,by omega,rfl,rfl,by rw [show (o.cl*1048576+o.ck) % 256=(o.cl*1048576+o.ck) / 1 % 256 by rw [Int.ediv_one]] at HG3;exact HG3⟩
     case measure=>simp [intOf]
theorem know_any (v:Value) (os:List Opn) (o:Opn) (w:World) (hO:OwnK w 0 v os) (hs:ByKey os) (hc:∀ x∈os,KeyT x) (ho:OpW o) (hkd:o.kd=1∨o.kd=2) (hn:os.length≤1000):Calls Tryz.prog 212 #[.agg (rowOf 72 fun j=>.int .u32 (RV j)),v,.agg #[.int .i64 o.kd,.int .u32 o.cl,.int .u32 o.ck,.int .u32 o.st,.int .u64 o.rf,.int .i32 o.ch]] w fun e w'=>(∃ v,e=.returned v∧OwnK w' w.heap.size v (putK o os))∧Below w.heap.size w w':=by
 rcases hO.2 with ⟨rfl,e⟩|⟨g,cap,cur,rfl,_⟩
 ·obtain rfl:=List.length_eq_zero_iff.1 e
  exact know_nil o w ho hkd
 ·exact know_some g cap os o w hO hs hc ho hkd hn
end Go.Proofs.YtgccjefbedpmpaaGreatDoor

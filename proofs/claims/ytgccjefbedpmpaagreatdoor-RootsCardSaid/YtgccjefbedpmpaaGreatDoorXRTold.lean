import Derived.Test.YtgccjefbedpmpaaGreatDoorXTextU
namespace Go.Proofs.YtgccjefbedpmpaaGreatDoor
open Go.RowKit
set_option maxRecDepth 100000
set_option maxHeartbeats 8000000
structure TdS (w W:World) (y:Nat) (o:Opn) (g:Nat) (on:List Opn):Prop where
 below:Below w.heap.size w W
 box:RowIs W y 43 6 (opV o)
 at':OpsAt W g 0 on
theorem TdS.kept {w W W2:World} {y:Nat} {o:Opn} {g:Nat} {on:List Opn} (h:TdS w W y o g on) (hb:Below W.heap.size W W2):TdS w W2 y o g on:=⟨h.below.trans (hb.mono h.below.size),h.box.below hb h.box.lt,h.at'.below hb⟩
theorem onL_len (k:Int) (l:List Opn):(onL k [] l).length≤l.length:=by
 rw [(onL_perm k l []).length_eq,List.nil_append]
 exact List.length_filter_le _ _
theorem onL_mem (k:Int) (l:List Opn):∀ x∈onL k [] l,x∈l:=fun x hx=>by
 have:=(onL_perm k l []).mem_iff.1 hx
 rw [List.nil_append] at this
 exact (List.mem_filter.1 this).1
theorem HXm {w:World} {B:Nat} {v:Value} {ys:List Opn} (h:OwnO w B v ys):∃ (ax:Option Addr) (c:Nat),v=.slice ax ys.length c∧((ax=none∧ys.length=0)∨∃ ad,ax=some ad∧∀ j u,(opCs ys)[j]?=some u→w.cell? (ad.add j)=some u):=by
 rcases h.2 with ⟨e,e1⟩|⟨g,cap,cur,e,_⟩
 ·exact ⟨none,0,by rw [e,e1],Or.inl ⟨rfl,e1⟩⟩
 ·subst e
  refine ⟨some ⟨g,0,none⟩,cap,rfl,Or.inr ⟨_,rfl,?_⟩⟩
  have:=ops_take (OwnO.at0 h) ys.length
  rwa [List.take_length] at this
theorem told_step (gL cL:Nat) (os:List Opn) (k:Int) (f:Opn→List Opn) (w:World) (hO:OwnK w 0 (.slice (some ⟨gL,0,none⟩) os.length cL) os) (hc:∀ x∈os,KeyT x) (hn:os.length≤120) (hl:((onL k [] os).flatMap fun o=>o::f o).length≤1000000)
  (hF:∀ o∈onL k [] os,∀ W,Below w.heap.size w W→Calls Tryz.prog 211 #[.slice (some ⟨gL,0,none⟩) os.length cL,.int .u64 o.key] W fun e w'=>(∃ v,e=.returned v∧OwnO w' W.heap.size v (f o))∧Below W.heap.size W w') :
  Calls Tryz.prog 211 #[.slice (some ⟨gL,0,none⟩) os.length cL,.int .u64 k] w fun e w'=>(∃ v,e=.returned v∧OwnO w' w.heap.size v ((onL k [] os).flatMap fun o=>o::f o))∧Below w.heap.size w w':=by
 obtain ⟨io,oi,oz0,oz1,oz2⟩:=info_parts infoOpB
 have HA:=hid2 (OwnK.at0 hO)
 have HKS:=hid2 hc
 have HFF:=hid2 hF
 have HLn:=hid2 hl
 clear hO hc hF hl
 go_enter Tryz.func211,Tryz.ntmps211
 go_wp2_with fail
 go_loopw [5,6] (fun ov iv wr=>∃ (i:Nat) (v:Value),i≤os.length∧ov=v∧iv=.int .i64 i∧Hid (OwnO wr w.heap.size v (onL k [] (os.take i)))∧Hid (Below w.heap.size w wr)) (fun _ iv _=>os.length-(intOf iv).toNat)
 case atStart=>exact ⟨0,_,Nat.zero_le _,rfl,rfl,hid2 (by rw [List.take_zero];exact ownO_nil _ _),hid2 (Below.refl _ _)⟩
 case round=>
  obtain ⟨i,v,hi,hov,rfl,HO,HB⟩:=hrel
  obtain rfl:=hov.symm
  clear hov
  by_cases hlt:i<os.length
  ·have li:(i:Int)<(os.length:Int):=by omega
   have hcs:=(HA.out.below HB.out).cells hlt
   simp only [Nat.zero_add] at hcs
   obtain ⟨k0,k1,k2,k3,k4,k5⟩:=hcs
   have HKo:=hid2 (HKS.out _ (List.getElem_mem hlt))
   have hol:(onL k [] (os.take i)).length≤120:=Nat.le_trans (onL_len _ _) (by rw [List.length_take];omega)
   have HKT:Hid (∀ x∈onL k [] (os.take i),KeyT x):=fun x hx=>HKS.out x (List.mem_of_mem_take (onL_mem _ _ x hx))
   generalize hon:onL k [] (os.take i)=on at *
   have HON:=hid2 hon
   clear hon
   have R7:RowIs (wr.alloc (.cells #[.int .i64 0,.int .u32 0,.int .u32 0,.int .u32 0,.int .u64 0,.int .i32 0] 43)) wr.heap.size 43 6 (opV o0):=RowIs.last (n:=6) (f:=opV o0) (cs:=#[.int .i64 0,.int .u32 0,.int .u32 0,.int .u32 0,.int .u64 0,.int .i32 0]) rfl rfl
   have HW8:Hid (Below wr.heap.size wr ((wr.alloc (.cells #[.int .i64 0,.int .u32 0,.int .u32 0,.int .u32 0,.int .u64 0,.int .i32 0] 43)).setRow wr.heap.size (rowOf 6 (opV os[i])))):=below_setRow' (below1' _ _) (Nat.le_refl _) _
   have R8:=R7.setRow (opV os[i])
   obtain ⟨q0,q1,q2,q3,q4,q5⟩:=boxCells R8
   by_cases hkr:os[i].kd=1∧os[i].rf=k
   ·have HKR:=hid2 hkr
    have hkd:(os[i].kd==1)=true:=by simpa using hkr.1
    have hrf:(os[i].rf==k)=true:=by simpa using hkr.2
    have hkd2:(os[i].kd != 1)=false:=by simp [bne,hkd]
    have hrf2:(os[i].rf != k)=false:=by simp [bne,hrf]
    clear hkr
    rcases HO.out.2 with ⟨rfl,e1⟩|⟨g,cap,cur,rfl,_,_,hcap,_⟩
    ·obtain rfl:=List.length_eq_zero_iff.1 e1
     obtain ⟨g,HT0⟩:∃ g,Hid (TdS w ((wr.alloc (.cells #[.int .i64 0,.int .u32 0,.int .u32 0,.int .u32 0,.int .u64 0,.int .i32 0] 43)).setRow wr.heap.size (rowOf 6 (opV os[i]))) wr.heap.size os[i] g []):=⟨0,hid2 ⟨HB.out.trans (HW8.out.mono HB.out.size),R8,fun j hj=>by cases hj⟩⟩
     go_wp2_with (refine wpList_store_row rfl 43 (.tmp 7) (.tmp 23) rfl wr.heap.size (rowOf 6 (opV os[i])) rfl rfl _ _ R7 (by rw [rowOf_size];exact infoOp6) (by rw [rowOf_size,rowOf_size]) (opV_one _) ?_)
     clear R7 R8 q0 q1 q2 q3 q4 q5 k0 k1 k2 k3 k4 k5 HW8 hkd hrf hkd2 hrf2
     generalize World.setRow _ _ _=w8 at HT0 ⊢
     obtain ⟨wo,rfl⟩:∃ wo:World,wo=wr:=⟨_,rfl⟩
     go_loopw [8] (fun av wx=>∃ n:Nat,n≤([]:List Opn).length∧av=.int .i64 n∧Hid (∀ j (hj:j<([]:List Opn).length),j<n→os[i].st<([]:List Opn)[j].st∨(([]:List Opn)[j].st=os[i].st∧os[i].key<([]:List Opn)[j].key))∧Hid (TdS w wx wo.heap.size os[i] g [])) (fun av _=>([]:List Opn).length-(intOf av).toNat)
     case atStart=>exact ⟨0,Nat.zero_le _,rfl,fun j _ h=>absurd h (Nat.not_lt_zero _),HT0⟩
     case round=>
      obtain ⟨n,hn0,rfl,HAh,HT⟩:=hrel
      clear HT0
      obtain rfl:n=0:=by simpa using hn0
      go_wp2_with fail
      refine wp_region_held_drew (S:=fun W=>TdS w W wo.heap.size os[i] g []) (by kernel_rfl) (HT.out.kept (Below.refl _ _).drew) (fun hHeld=>?_)
      generalize World.drew _=wD at hHeld ⊢
      clear HT
      refine tk0 0 33 ?_
      refine tk0 1 34 ?_
      refine tk0 2 35 ?_
      refine tk0 3 36 ?_
      refine tk0 4 37 ?_
      refine tku 5 38 ?_
      refine tku 6 39 ?_
      refine tku 7 40 ?_
      refine tku 8 41 ?_
      refine tku 9 42 ?_
      refine tku 10 43 ?_
      refine tku 11 44 ?_
      refine tku 12 45 ?_
      refine tku 13 46 ?_
      refine tku 14 47 ?_
      refine tku 15 48 ?_
      refine tku 16 49 ?_
      refine tku 17 50 ?_
      refine tku 18 51 ?_
      refine tku 19 52 ?_
      refine tku 20 53 ?_
      refine tku 21 54 ?_
      refine tku 22 55 ?_
      refine tku 23 56 ?_
      refine tku 24 57 ?_
      refine tku 25 58 ?_
      refine tku 26 59 ?_
      refine tku 27 60 ?_
      refine tku 28 61 ?_
      refine tku 29 62 ?_
      refine tku 30 63 ?_
      refine tku 31 64 ?_
      refine tku 32 65 ?_
      refine tk0 33 66 ?_
      refine wdn ?_
      have HE:=hid2 hHeld
      clear hHeld
      have HI:Hid (onL k [] (os.take (i+1))=[os[i]]):=by show _=_;rw [onL_take k os i [] hlt,if_pos HKR.out,HON.out];rfl
      go_wp2_with (first
       | (at_builtin;refine wpList_append_any rfl (.tmp 69) (.tmp 72) 32 rfl _ 43 io _ 6 40 Tryz.underlying32 oi oz0 oz1 oz2 rfl (by decide) (.slice none 0 0) 0 [] rfl (AppG.start _ _ _).own none 0 0 [] rfl rfl (Or.inl ⟨rfl,rfl⟩) (fun u h=>(by cases h)) (by unfold maxLen;omega) (by omega) (Nat.le_refl _) ?_;intro v2 w2 ho2 hg2 hv2;have H2:=hid2 ((AppG.start _ _ _).app ho2 hg2);obtain ⟨q0,q1,q2,q3,q4,q5⟩:=boxCells (H2.out.row HE.out.box);clear ho2 hg2 hv2)
       | (at_builtin;refine wpList_append_any rfl (.tmp 74) (.tmp 76) 32 rfl _ 43 io _ 6 40 Tryz.underlying32 oi oz0 oz1 oz2 rfl (by decide) v2 _ _ rfl (H2.out.alloc _).own (some ⟨w2.heap.size,0,none⟩) 1 1 (opCs [os[i]]) rfl rfl (Or.inr ⟨_,rfl,World.news_of_block (heap_alloc_new w2 _)⟩) (opCs_one _) (by unfold maxLen;omega) (by omega) (H2.out.alloc _).below.size ?_;intro v3 w3 ho3 hg3 hv3;have H3:=hid2 ((H2.out.alloc _).app ho3 hg3);clear ho3 hg3 hv3)
       | (at_builtin;refine wpList_append_any rfl (.tmp 78) (.tmp 81) 32 rfl _ 43 io _ 6 40 Tryz.underlying32 oi oz0 oz1 oz2 rfl (by decide) v3 _ _ rfl H3.out.own none 0 0 [] rfl rfl (Or.inl ⟨rfl,rfl⟩) (fun u h=>(by cases h)) (by unfold maxLen;omega) (by omega) H3.out.below.size ?_;intro v4 w4 ho4 hg4 hv4;have H4:=hid2 (H3.out.app ho4 hg4);clear ho4 hg4 hv4))
      have HF:=hid2 (H4.out.ownO (os:=onL k [] (os.take (i+1))) HE.out.below.size (by rw [HI.out];simp) (by rw [HI.out];simp [opCs]))
      have HG:=hid2 (HE.out.below.trans (H4.out.below.mono HE.out.below.size))
      go_roundw
      case rel=>exact ⟨i+1,v4,hlt,rfl,by go_num,HF,HG⟩
      case measure=>simp [intOf];omega
    ·have HT0:Hid (TdS w ((wr.alloc (.cells #[.int .i64 0,.int .u32 0,.int .u32 0,.int .u32 0,.int .u64 0,.int .i32 0] 43)).setRow wr.heap.size (rowOf 6 (opV os[i]))) wr.heap.size os[i] g on):=⟨HB.out.trans (HW8.out.mono HB.out.size),R8,(OwnO.at0 HO.out).below HW8.out⟩
     go_wp2_with (refine wpList_store_row rfl 43 (.tmp 7) (.tmp 23) rfl wr.heap.size (rowOf 6 (opV os[i])) rfl rfl _ _ R7 (by rw [rowOf_size];exact infoOp6) (by rw [rowOf_size,rowOf_size]) (opV_one _) ?_)
     clear R7 R8 q0 q1 q2 q3 q4 q5 k0 k1 k2 k3 k4 k5 HW8 hkd hrf hkd2 hrf2
     generalize World.setRow _ _ _=w8 at HT0 ⊢
     obtain ⟨wo,rfl⟩:∃ wo:World,wo=wr:=⟨_,rfl⟩
     go_loopw [8] (fun av wx=>∃ n:Nat,n≤on.length∧av=.int .i64 n∧Hid (∀ j (hj:j<on.length),j<n→os[i].st<on[j].st∨(on[j].st=os[i].st∧os[i].key<on[j].key))∧Hid (TdS w wx wo.heap.size os[i] g on)) (fun av _=>on.length-(intOf av).toNat)
     case atStart=>exact ⟨0,Nat.zero_le _,rfl,fun j _ h=>absurd h (Nat.not_lt_zero _),HT0⟩
     case round=>
      obtain ⟨n,hn0,rfl,HAh,HT⟩:=hrel
      clear HT0
      by_cases hnl:n<on.length
      ·have ln:(n:Int)<(on.length:Int):=by omega
       have HKn:=hid2 (HKT.out _ (List.getElem_mem hnl))
       go_wp2_with fail
       refine wp_region_held_drew (S:=fun W=>TdS w W wo.heap.size os[i] g on) (by kernel_rfl) (HT.out.kept (Below.refl _ _).drew) (fun hHeld=>?_)
       generalize World.drew _=wD at hHeld ⊢
       clear HT
       rcases Int.lt_or_le os[i].st on[n].st with hst|hst
       ·have HW:=hid2 hst
        have hdt:decide (os[i].st<on[n].st)=true:=decide_eq_true hst
        clear hst
        refine wF (fun _ h=>aI (boxCells h.box) (h.at'.cells hnl)) fun x1=>?_
        refine tkx 0 33 x1 ?_
        refine tkx 1 34 x1 ?_
        refine tkx 2 35 x1 ?_
        refine tkx 3 36 x1 ?_
        refine tkx 4 37 x1 ?_
        refine tkx 5 38 x1 ?_
        refine tkx 6 39 x1 ?_
        refine tkx 7 40 x1 ?_
        refine tkx 8 41 x1 ?_
        refine tkx 9 42 x1 ?_
        refine tkx 10 43 x1 ?_
        refine tkx 11 44 x1 ?_
        refine tkx 12 45 x1 ?_
        refine tkx 13 46 x1 ?_
        refine tku 14 47 ?_
        refine tku 15 48 ?_
        refine tku 16 49 ?_
        refine tku 17 50 ?_
        refine tku 18 51 ?_
        refine tku 19 52 ?_
        refine tku 20 53 ?_
        refine tku 21 54 ?_
        refine tku 22 55 ?_
        refine tku 23 56 ?_
        refine tku 24 57 ?_
        refine tku 25 58 ?_
        refine tku 26 59 ?_
        refine tku 27 60 ?_
        refine tku 28 61 ?_
        refine tku 29 62 ?_
        refine tku 30 63 ?_
        refine tku 31 64 ?_
        refine tkx 32 65 x1 ?_
        refine tkx 33 66 x1 ?_
        refine wdn ?_
        go_wp2_with fail
        go_roundw
        case rel=>exact ⟨n+1,hnl,by go_num,(fun j hj h=>(by
         rcases Nat.lt_or_ge j n with q|q
         ·exact HAh.out j hj q
         ·have:j=n:=by omega
          subst this
          exact Or.inl HW.out):Hid _),hid2 hHeld⟩
        case measure=>simp [intOf];omega
       ·have hdf:decide (os[i].st<on[n].st)=false:=decide_eq_false (by omega)
        rcases Int.lt_or_le on[n].st os[i].st with hst2|hst2
        ·have HW:=hid2 hst2
         have hne:(on[n].st==os[i].st)=false:=by simp only [beq_eq_false_iff_ne];omega
         refine wF (fun _ h=>aI (boxCells h.box) (h.at'.cells hnl)) fun x1=>?_
         refine tkx 0 33 x1 ?_
         refine tkx 1 34 x1 ?_
         refine tkx 2 35 x1 ?_
         refine tkx 3 36 x1 ?_
         refine tkx 4 37 x1 ?_
         refine tkx 5 38 x1 ?_
         refine tkx 6 39 x1 ?_
         refine tkx 7 40 x1 ?_
         refine tkx 8 41 x1 ?_
         refine tkx 9 42 x1 ?_
         refine tkx 10 43 x1 ?_
         refine tkx 11 44 x1 ?_
         refine tkx 12 45 x1 ?_
         refine tkx 13 46 x1 ?_
         refine tkx 14 47 x1 ?_
         refine tkx 15 48 x1 ?_
         refine tkx 16 49 x1 ?_
         refine tkx 17 50 x1 ?_
         refine tkx 18 51 x1 ?_
         refine tkx 19 52 x1 ?_
         refine tkx 20 53 x1 ?_
         refine tkx 21 54 x1 ?_
         refine tkx 22 55 x1 ?_
         refine tku 23 56 ?_
         refine tku 24 57 ?_
         refine tku 25 58 ?_
         refine tku 26 59 ?_
         refine tku 27 60 ?_
         refine tku 28 61 ?_
         refine tku 29 62 ?_
         refine tku 30 63 ?_
         refine tkx 31 64 x1 ?_
         refine tkx 32 65 x1 ?_
         refine tkx 33 66 x1 ?_
         refine wdn ?_
         have HE:=hid2 hHeld
         clear hHeld
         have HI:Hid (onL k [] (os.take (i+1))=on.take n++os[i]::on.drop n):=by show _=_;rw [onL_take k os i [] hlt,if_pos HKR.out,HON.out];exact insD_at _ _ _ (by omega) HAh.out fun h=>(by have:=HW.out;omega)
         go_wp2_with (first
          | (at_builtin;refine wpList_append_any rfl (.tmp 69) (.tmp 72) 32 rfl _ 43 io _ 6 40 Tryz.underlying32 oi oz0 oz1 oz2 rfl (by decide) (.slice none 0 0) 0 [] rfl (AppG.start _ _ _).own (some ⟨g,0,none⟩) n cap (opCs (on.take n)) rfl (by rw [opCs_len,List.length_take];omega) (Or.inr ⟨_,rfl,ops_take HE.out.at' n⟩) (opCs_one _) (by unfold maxLen;omega) (by omega) (Nat.le_refl _) ?_;intro v2 w2 ho2 hg2 hv2;have H2:=hid2 ((AppG.start _ _ _).app ho2 hg2);obtain ⟨q0,q1,q2,q3,q4,q5⟩:=boxCells (H2.out.row HE.out.box);clear ho2 hg2 hv2)
          | (at_builtin;refine wpList_append_any rfl (.tmp 74) (.tmp 76) 32 rfl _ 43 io _ 6 40 Tryz.underlying32 oi oz0 oz1 oz2 rfl (by decide) v2 _ _ rfl (H2.out.alloc _).own (some ⟨w2.heap.size,0,none⟩) 1 1 (opCs [os[i]]) rfl rfl (Or.inr ⟨_,rfl,World.news_of_block (heap_alloc_new w2 _)⟩) (opCs_one _) (by unfold maxLen;omega) (by omega) (H2.out.alloc _).below.size ?_;intro v3 w3 ho3 hg3 hv3;have H3:=hid2 ((H2.out.alloc _).app ho3 hg3);clear ho3 hg3 hv3)
          | (at_builtin;refine wpList_append_any rfl (.tmp 78) (.tmp 81) 32 rfl _ 43 io _ 6 40 Tryz.underlying32 oi oz0 oz1 oz2 rfl (by decide) v3 _ _ rfl H3.out.own (some ⟨g,n*6,none⟩) (on.length-n) (cap-n) (opCs (on.drop n)) rfl (by rw [opCs_len,List.length_drop]) (Or.inr ⟨_,rfl,ops_drop (HE.out.at'.below H3.out.below) n⟩) (opCs_one _) (by unfold maxLen;omega) (by omega) H3.out.below.size ?_;intro v4 w4 ho4 hg4 hv4;have H4:=hid2 (H3.out.app ho4 hg4);clear ho4 hg4 hv4))
         have HF:=hid2 (H4.out.ownO (os:=onL k [] (os.take (i+1))) HE.out.below.size (by rw [HI.out];simp;omega) (by rw [HI.out,opCs_app,show os[i]::on.drop n=[os[i]]++on.drop n from rfl,opCs_app,List.nil_append,List.append_assoc]))
         have HG:=hid2 (HE.out.below.trans (H4.out.below.mono HE.out.below.size))
         go_roundw
         case rel=>exact ⟨i+1,v4,hlt,rfl,by go_num,HF,HG⟩
         case measure=>simp [intOf];omega
        ·have heq:on[n].st=os[i].st:=by omega
         have hne:(on[n].st==os[i].st)=true:=by simpa using heq
         rcases Int.lt_or_le (os[i].cl*1048576+os[i].ck) (on[n].cl*1048576+on[n].ck) with hky|hky
         ·have HW:=hid2 (And.intro heq hky)
          refine wF (fun _ h=>aI (boxCells h.box) (h.at'.cells hnl)) fun x1=>?_
          refine tkx 0 33 x1 ?_
          refine tkx 1 34 x1 ?_
          refine tkx 2 35 x1 ?_
          refine tkx 3 36 x1 ?_
          refine tkx 4 37 x1 ?_
          refine tkx 5 38 x1 ?_
          refine tkx 6 39 x1 ?_
          refine tkx 7 40 x1 ?_
          refine tkx 8 41 x1 ?_
          refine tkx 9 42 x1 ?_
          refine tkx 10 43 x1 ?_
          refine tkx 11 44 x1 ?_
          refine tkx 12 45 x1 ?_
          refine tkx 13 46 x1 ?_
          refine tkx 14 47 x1 ?_
          refine tkx 15 48 x1 ?_
          refine tkx 16 49 x1 ?_
          refine tkx 17 50 x1 ?_
          refine tkx 18 51 x1 ?_
          refine tkx 19 52 x1 ?_
          refine tkx 20 53 x1 ?_
          refine tkx 21 54 x1 ?_
          refine tkx 22 55 x1 ?_
          refine tkx 23 56 x1 ?_
          refine tkx 24 57 x1 ?_
          refine tkx 25 58 x1 ?_
          refine tkx 26 59 x1 ?_
          refine tkx 28 61 x1 ?_
          refine rd 27 (some 60) rfl (fun K hK=>?_)
          go_simp
          refine (keyG _ _ _ _ _ _ HKn.out.1 HKn.out.2 _).mono ?_
          rintro e wk0 ⟨rfl,hb⟩
          refine hK.out _ _ (hHeld.kept hb) (fun hHeld=>?_)
          clear hK K hb
          refine rd 29 (some 62) rfl (fun K hK=>?_)
          go_simp
          refine (keyG _ _ _ _ _ _ HKo.out.1 HKo.out.2 _).mono ?_
          rintro e wk1 ⟨rfl,hb⟩
          refine hK.out _ _ (hHeld.kept hb) (fun hHeld=>?_)
          clear hK K hb
          refine tkx 30 63 x1 ?_
          refine tkx 31 64 x1 ?_
          refine tkx 32 65 x1 ?_
          refine tkx 33 66 x1 ?_
          refine wdn ?_
          go_wp2_with fail
          go_roundw
          case rel=>exact ⟨n+1,hnl,by go_num,(fun j hj h=>(by
           rcases Nat.lt_or_ge j n with q|q
           ·exact HAh.out j hj q
           ·have:j=n:=by omega
            subst this
            exact Or.inr ⟨HW.out.1,HW.out.2⟩):Hid _),hid2 hHeld⟩
          case measure=>simp [intOf];omega
         ·have HW:=hid2 (And.intro heq hky)
          refine wF (fun _ h=>aI (boxCells h.box) (h.at'.cells hnl)) fun x1=>?_
          refine tkx 0 33 x1 ?_
          refine tkx 1 34 x1 ?_
          refine tkx 2 35 x1 ?_
          refine tkx 3 36 x1 ?_
          refine tkx 4 37 x1 ?_
          refine tkx 5 38 x1 ?_
          refine tkx 6 39 x1 ?_
          refine tkx 7 40 x1 ?_
          refine tkx 8 41 x1 ?_
          refine tkx 9 42 x1 ?_
          refine tkx 10 43 x1 ?_
          refine tkx 11 44 x1 ?_
          refine tkx 12 45 x1 ?_
          refine tkx 13 46 x1 ?_
          refine tkx 14 47 x1 ?_
          refine tkx 15 48 x1 ?_
          refine tkx 16 49 x1 ?_
          refine tkx 17 50 x1 ?_
          refine tkx 18 51 x1 ?_
          refine tkx 19 52 x1 ?_
          refine tkx 20 53 x1 ?_
          refine tkx 21 54 x1 ?_
          refine tkx 22 55 x1 ?_
          refine tkx 23 56 x1 ?_
          refine tkx 24 57 x1 ?_
          refine tkx 25 58 x1 ?_
          refine tkx 26 59 x1 ?_
          refine tkx 28 61 x1 ?_
          refine rd 27 (some 60) rfl (fun K hK=>?_)
          go_simp
          refine (keyG _ _ _ _ _ _ HKn.out.1 HKn.out.2 _).mono ?_
          rintro e wk0 ⟨rfl,hb⟩
          refine hK.out _ _ (hHeld.kept hb) (fun hHeld=>?_)
          clear hK K hb
          refine rd 29 (some 62) rfl (fun K hK=>?_)
          go_simp
          refine (keyG _ _ _ _ _ _ HKo.out.1 HKo.out.2 _).mono ?_
          rintro e wk1 ⟨rfl,hb⟩
          refine hK.out _ _ (hHeld.kept hb) (fun hHeld=>?_)
          clear hK K hb
          refine tkx 30 63 x1 ?_
          refine tkx 31 64 x1 ?_
          refine tkx 32 65 x1 ?_
          refine tkx 33 66 x1 ?_
          refine wdn ?_
          have HE:=hid2 hHeld
          clear hHeld
          have HI:Hid (onL k [] (os.take (i+1))=on.take n++os[i]::on.drop n):=by show _=_;rw [onL_take k os i [] hlt,if_pos HKR.out,HON.out];exact insD_at _ _ _ (by omega) HAh.out fun h=>(by have h1:=HW.out.1;have h2:on[n].key≤os[i].key:=HW.out.2;omega)
          go_wp2_with (first
           | (at_builtin;refine wpList_append_any rfl (.tmp 69) (.tmp 72) 32 rfl _ 43 io _ 6 40 Tryz.underlying32 oi oz0 oz1 oz2 rfl (by decide) (.slice none 0 0) 0 [] rfl (AppG.start _ _ _).own (some ⟨g,0,none⟩) n cap (opCs (on.take n)) rfl (by rw [opCs_len,List.length_take];omega) (Or.inr ⟨_,rfl,ops_take HE.out.at' n⟩) (opCs_one _) (by unfold maxLen;omega) (by omega) (Nat.le_refl _) ?_;intro v2 w2 ho2 hg2 hv2;have H2:=hid2 ((AppG.start _ _ _).app ho2 hg2);obtain ⟨q0,q1,q2,q3,q4,q5⟩:=boxCells (H2.out.row HE.out.box);clear ho2 hg2 hv2)
           | (at_builtin;refine wpList_append_any rfl (.tmp 74) (.tmp 76) 32 rfl _ 43 io _ 6 40 Tryz.underlying32 oi oz0 oz1 oz2 rfl (by decide) v2 _ _ rfl (H2.out.alloc _).own (some ⟨w2.heap.size,0,none⟩) 1 1 (opCs [os[i]]) rfl rfl (Or.inr ⟨_,rfl,World.news_of_block (heap_alloc_new w2 _)⟩) (opCs_one _) (by unfold maxLen;omega) (by omega) (H2.out.alloc _).below.size ?_;intro v3 w3 ho3 hg3 hv3;have H3:=hid2 ((H2.out.alloc _).app ho3 hg3);clear ho3 hg3 hv3)
           | (at_builtin;refine wpList_append_any rfl (.tmp 78) (.tmp 81) 32 rfl _ 43 io _ 6 40 Tryz.underlying32 oi oz0 oz1 oz2 rfl (by decide) v3 _ _ rfl H3.out.own (some ⟨g,n*6,none⟩) (on.length-n) (cap-n) (opCs (on.drop n)) rfl (by rw [opCs_len,List.length_drop]) (Or.inr ⟨_,rfl,ops_drop (HE.out.at'.below H3.out.below) n⟩) (opCs_one _) (by unfold maxLen;omega) (by omega) H3.out.below.size ?_;intro v4 w4 ho4 hg4 hv4;have H4:=hid2 (H3.out.app ho4 hg4);clear ho4 hg4 hv4))
          have HF:=hid2 (H4.out.ownO (os:=onL k [] (os.take (i+1))) HE.out.below.size (by rw [HI.out];simp;omega) (by rw [HI.out,opCs_app,show os[i]::on.drop n=[os[i]]++on.drop n from rfl,opCs_app,List.nil_append,List.append_assoc]))
          have HG:=hid2 (HE.out.below.trans (H4.out.below.mono HE.out.below.size))
          go_roundw
          case rel=>exact ⟨i+1,v4,hlt,rfl,by go_num,HF,HG⟩
          case measure=>simp [intOf];omega
      ·obtain rfl:n=on.length:=by omega
       rcases Nat.lt_or_ge on.length cap with hcq|hcq
       ·go_wp2_with fail
        refine wp_region_held_drew (S:=fun W=>TdS w W wo.heap.size os[i] g on) (by kernel_rfl) (HT.out.kept (Below.refl _ _).drew) (fun hHeld=>?_)
        generalize World.drew _=wD at hHeld ⊢
        clear HT
        refine tk0 0 33 ?_
        refine tk0 1 34 ?_
        refine tk0 2 35 ?_
        refine tk0 3 36 ?_
        refine tk0 4 37 ?_
        refine tku 5 38 ?_
        refine tku 6 39 ?_
        refine tku 7 40 ?_
        refine tku 8 41 ?_
        refine tku 9 42 ?_
        refine tku 10 43 ?_
        refine tku 11 44 ?_
        refine tku 12 45 ?_
        refine tku 13 46 ?_
        refine tku 14 47 ?_
        refine tku 15 48 ?_
        refine tku 16 49 ?_
        refine tku 17 50 ?_
        refine tku 18 51 ?_
        refine tku 19 52 ?_
        refine tku 20 53 ?_
        refine tku 21 54 ?_
        refine tku 22 55 ?_
        refine tku 23 56 ?_
        refine tku 24 57 ?_
        refine tku 25 58 ?_
        refine tku 26 59 ?_
        refine tku 27 60 ?_
        refine tku 28 61 ?_
        refine tku 29 62 ?_
        refine tku 30 63 ?_
        refine tku 31 64 ?_
        refine tku 32 65 ?_
        refine tk0 33 66 ?_
        refine wdn ?_
        have HE:=hid2 hHeld
        clear hHeld
        have HI:Hid (onL k [] (os.take (i+1))=on.take on.length++os[i]::on.drop on.length):=by show _=_;rw [onL_take k os i [] hlt,if_pos HKR.out,HON.out];exact insD_at _ _ _ (by omega) HAh.out fun h=>absurd h (Nat.lt_irrefl _)
        go_wp2_with (first
         | (at_builtin;refine wpList_append_any rfl (.tmp 69) (.tmp 72) 32 rfl _ 43 io _ 6 40 Tryz.underlying32 oi oz0 oz1 oz2 rfl (by decide) (.slice none 0 0) 0 [] rfl (AppG.start _ _ _).own (some ⟨g,0,none⟩) on.length cap (opCs (on.take on.length)) rfl (by rw [opCs_len,List.length_take];omega) (Or.inr ⟨_,rfl,ops_take HE.out.at' on.length⟩) (opCs_one _) (by unfold maxLen;omega) (by omega) (Nat.le_refl _) ?_;intro v2 w2 ho2 hg2 hv2;have H2:=hid2 ((AppG.start _ _ _).app ho2 hg2);obtain ⟨q0,q1,q2,q3,q4,q5⟩:=boxCells (H2.out.row HE.out.box);clear ho2 hg2 hv2)
         | (at_builtin;refine wpList_append_any rfl (.tmp 74) (.tmp 76) 32 rfl _ 43 io _ 6 40 Tryz.underlying32 oi oz0 oz1 oz2 rfl (by decide) v2 _ _ rfl (H2.out.alloc _).own (some ⟨w2.heap.size,0,none⟩) 1 1 (opCs [os[i]]) rfl rfl (Or.inr ⟨_,rfl,World.news_of_block (heap_alloc_new w2 _)⟩) (opCs_one _) (by unfold maxLen;omega) (by omega) (H2.out.alloc _).below.size ?_;intro v3 w3 ho3 hg3 hv3;have H3:=hid2 ((H2.out.alloc _).app ho3 hg3);clear ho3 hg3 hv3)
         | (at_builtin;refine wpList_append_any rfl (.tmp 78) (.tmp 81) 32 rfl _ 43 io _ 6 40 Tryz.underlying32 oi oz0 oz1 oz2 rfl (by decide) v3 _ _ rfl H3.out.own (some ⟨g,on.length*6,none⟩) 0 (cap-on.length) [] rfl rfl (Or.inr ⟨_,rfl,fun j u h=>(by cases h)⟩) (fun u h=>(by cases h)) (by unfold maxLen;omega) (by omega) H3.out.below.size ?_;intro v4 w4 ho4 hg4 hv4;have H4:=hid2 (H3.out.app ho4 hg4);clear ho4 hg4 hv4))
        have HF:=hid2 (H4.out.ownO (os:=onL k [] (os.take (i+1))) HE.out.below.size (by rw [HI.out];simp) (by rw [HI.out,List.take_length,List.drop_length];simp [opCs_app,opCs]))
        have HG:=hid2 (HE.out.below.trans (H4.out.below.mono HE.out.below.size))
        go_roundw
        case rel=>exact ⟨i+1,v4,hlt,rfl,by go_num,HF,HG⟩
        case measure=>simp [intOf];omega
       ·obtain rfl:on.length=cap:=by omega
        go_wp2_with fail
        refine wp_region_held_drew (S:=fun W=>TdS w W wo.heap.size os[i] g on) (by kernel_rfl) (HT.out.kept (Below.refl _ _).drew) (fun hHeld=>?_)
        generalize World.drew _=wD at hHeld ⊢
        clear HT
        refine tk0 0 33 ?_
        refine tk0 1 34 ?_
        refine tk0 2 35 ?_
        refine tk0 3 36 ?_
        refine tk0 4 37 ?_
        refine tku 5 38 ?_
        refine tku 6 39 ?_
        refine tku 7 40 ?_
        refine tku 8 41 ?_
        refine tku 9 42 ?_
        refine tku 10 43 ?_
        refine tku 11 44 ?_
        refine tku 12 45 ?_
        refine tku 13 46 ?_
        refine tku 14 47 ?_
        refine tku 15 48 ?_
        refine tku 16 49 ?_
        refine tku 17 50 ?_
        refine tku 18 51 ?_
        refine tku 19 52 ?_
        refine tku 20 53 ?_
        refine tku 21 54 ?_
        refine tku 22 55 ?_
        refine tku 23 56 ?_
        refine tku 24 57 ?_
        refine tku 25 58 ?_
        refine tku 26 59 ?_
        refine tku 27 60 ?_
        refine tku 28 61 ?_
        refine tku 29 62 ?_
        refine tku 30 63 ?_
        refine tku 31 64 ?_
        refine tku 32 65 ?_
        refine tk0 33 66 ?_
        refine wdn ?_
        have HE:=hid2 hHeld
        clear hHeld
        have HI:Hid (onL k [] (os.take (i+1))=on.take on.length++os[i]::on.drop on.length):=by show _=_;rw [onL_take k os i [] hlt,if_pos HKR.out,HON.out];exact insD_at _ _ _ (by omega) HAh.out fun h=>absurd h (Nat.lt_irrefl _)
        go_wp2_with (first
         | (at_builtin;refine wpList_append_any rfl (.tmp 69) (.tmp 72) 32 rfl _ 43 io _ 6 40 Tryz.underlying32 oi oz0 oz1 oz2 rfl (by decide) (.slice none 0 0) 0 [] rfl (AppG.start _ _ _).own (some ⟨g,0,none⟩) on.length on.length (opCs (on.take on.length)) rfl (by rw [opCs_len,List.length_take];omega) (Or.inr ⟨_,rfl,ops_take HE.out.at' on.length⟩) (opCs_one _) (by unfold maxLen;omega) (by omega) (Nat.le_refl _) ?_;intro v2 w2 ho2 hg2 hv2;have H2:=hid2 ((AppG.start _ _ _).app ho2 hg2);obtain ⟨q0,q1,q2,q3,q4,q5⟩:=boxCells (H2.out.row HE.out.box);clear ho2 hg2 hv2)
         | (at_builtin;refine wpList_append_any rfl (.tmp 74) (.tmp 76) 32 rfl _ 43 io _ 6 40 Tryz.underlying32 oi oz0 oz1 oz2 rfl (by decide) v2 _ _ rfl (H2.out.alloc _).own (some ⟨w2.heap.size,0,none⟩) 1 1 (opCs [os[i]]) rfl rfl (Or.inr ⟨_,rfl,World.news_of_block (heap_alloc_new w2 _)⟩) (opCs_one _) (by unfold maxLen;omega) (by omega) (H2.out.alloc _).below.size ?_;intro v3 w3 ho3 hg3 hv3;have H3:=hid2 ((H2.out.alloc _).app ho3 hg3);clear ho3 hg3 hv3)
         | (at_builtin;refine wpList_append_any rfl (.tmp 78) (.tmp 81) 32 rfl _ 43 io _ 6 40 Tryz.underlying32 oi oz0 oz1 oz2 rfl (by decide) v3 _ _ rfl H3.out.own (some ⟨g,0,none⟩) 0 0 [] rfl rfl (Or.inr ⟨_,rfl,fun j u h=>(by cases h)⟩) (fun u h=>(by cases h)) (by unfold maxLen;omega) (by omega) H3.out.below.size ?_;intro v4 w4 ho4 hg4 hv4;have H4:=hid2 (H3.out.app ho4 hg4);clear ho4 hg4 hv4))
        have HF:=hid2 (H4.out.ownO (os:=onL k [] (os.take (i+1))) HE.out.below.size (by rw [HI.out];simp) (by rw [HI.out,List.take_length,List.drop_length];simp [opCs_app,opCs]))
        have HG:=hid2 (HE.out.below.trans (H4.out.below.mono HE.out.below.size))
        go_roundw
        case rel=>exact ⟨i+1,v4,hlt,rfl,by go_num,HF,HG⟩
        case measure=>simp [intOf];omega
   ·have HF:Hid (OwnO ((wr.alloc (.cells #[.int .i64 0,.int .u32 0,.int .u32 0,.int .u32 0,.int .u64 0,.int .i32 0] 43)).setRow wr.heap.size (rowOf 6 (opV os[i]))) w.heap.size v (onL k [] (os.take (i+1)))):=by show OwnO _ _ _ _;rw [onL_take k os i [] hlt,if_neg hkr,HON.out];exact ownO_keep HO.out HW8.out
    have HG:Hid (Below w.heap.size w ((wr.alloc (.cells #[.int .i64 0,.int .u32 0,.int .u32 0,.int .u32 0,.int .u64 0,.int .i32 0] 43)).setRow wr.heap.size (rowOf 6 (opV os[i])))):=HB.out.trans (HW8.out.mono HB.out.size)
    by_cases hk1:os[i].kd=1
    ·have hkd:(os[i].kd==1)=true:=by simpa using hk1
     have hrf:(os[i].rf==k)=false:=by simp only [beq_eq_false_iff_ne];exact fun e=>hkr ⟨hk1,e⟩
     have hkd2:(os[i].kd != 1)=false:=by simp [bne,hkd]
     have hrf2:(os[i].rf != k)=true:=by simp [bne,hrf]
     clear hk1 hkr
     go_wp2_with (refine wpList_store_row rfl 43 (.tmp 7) (.tmp 23) rfl wr.heap.size (rowOf 6 (opV os[i])) rfl rfl _ _ R7 (by rw [rowOf_size];exact infoOp6) (by rw [rowOf_size,rowOf_size]) (opV_one _) ?_)
     go_roundw
     case rel=>exact ⟨i+1,v,hlt,rfl,by go_num,HF,HG⟩
     case measure=>simp [intOf];omega
    ·have hkd:(os[i].kd==1)=false:=by simpa using hk1
     go_wp2_with (refine wpList_store_row rfl 43 (.tmp 7) (.tmp 23) rfl wr.heap.size (rowOf 6 (opV os[i])) rfl rfl _ _ R7 (by rw [rowOf_size];exact infoOp6) (by rw [rowOf_size,rowOf_size]) (opV_one _) ?_)
     go_roundw
     case rel=>exact ⟨i+1,v,hlt,rfl,by go_num,HF,HG⟩
     case measure=>simp [intOf];omega
  ·obtain rfl:i=os.length:=by omega
   rw [List.take_length] at HO
   have hol:(onL k [] os).length≤120:=Nat.le_trans (onL_len _ _) hn
   have HKT:Hid (∀ x∈onL k [] os,KeyT x):=fun x hx=>HKS.out x (onL_mem _ _ x hx)
   generalize hone:onL k [] os=on at *
   have HONE:=hid2 hone
   clear hone
   rcases HO.out.2 with ⟨rfl,e1⟩|⟨g,cap,cur,rfl,_,_,hcap,_⟩
   ·obtain rfl:=List.length_eq_zero_iff.1 e1
    obtain ⟨wo,rfl⟩:∃ wo:World,wo=wr:=⟨_,rfl⟩
    go_wp2_with fail
    go_loopw [10,11] (fun ov iv wx=>ov=.slice none 0 0∧iv=.int .i64 0∧Hid (Below w.heap.size w wx)) (fun _ _ _=>0)
    case atStart=>exact ⟨rfl,rfl,HB⟩
    case round=>
     obtain ⟨rfl,rfl,HB2⟩:=hrel
     go_wp2_with fail
     go_ret
     exact ⟨⟨_,rfl,by rw [HONE.out];exact ownO_nil _ _⟩,HB2.out⟩
   ·obtain ⟨wo,rfl⟩:∃ wo:World,wo=wr:=⟨_,rfl⟩
    go_wp2_with fail
    go_loopw [10,11] (fun ov iv wx=>∃ (j:Nat) (u:Value),j≤on.length∧ov=u∧iv=.int .i64 j∧Hid (AppG 43 6 wo wx u ((on.take j).flatMap fun o=>o::f o).length (opCs ((on.take j).flatMap fun o=>o::f o)))) (fun _ iv _=>on.length-(intOf iv).toNat)
    case atStart=>exact ⟨0,_,Nat.zero_le _,rfl,rfl,hid2 (by rw [List.take_zero];exact AppG.start _ _ _)⟩
    case round=>
     obtain ⟨j,u,hj,hou,rfl,HJ⟩:=hrel
     obtain rfl:=hou.symm
     clear hou
     by_cases hjl:j<on.length
     ·have lj:(j:Int)<(on.length:Int):=by omega
      have hcs:=((OwnO.at0 HO.out).below HJ.out.below).cells hjl
      simp only [Nat.zero_add] at hcs
      obtain ⟨k0,k1,k2,k3,k4,k5⟩:=hcs
      have HKn:=hid2 (HKT.out _ (List.getElem_mem hjl))
      have HFj:=hid2 (HFF.out _ (List.getElem_mem hjl))
      have hft:((on.take (j+1)).flatMap fun o=>o::f o)=((on.take j).flatMap fun o=>o::f o)++(on[j]::f on[j]):=flat_take _ on hjl
      have hfl:=Nat.le_trans (flat_le (fun o=>o::f o) on (j+1)) HLn.out
      have hfl2:((on.take j).flatMap fun o=>o::f o).length+((f on[j]).length+1)≤1000000:=by
       rw [hft,List.length_append,List.length_cons] at hfl
       exact hfl
      have HFT:=hid2 hft
      generalize ((on.take j).flatMap fun o=>o::f o)=pre at *
      clear hft hfl
      go_wp2_with (first
       | (at_builtin;refine wpList_append_any rfl (.tmp 89) (.tmp 94) 32 rfl _ 43 io _ 6 40 Tryz.underlying32 oi oz0 oz1 oz2 rfl (by decide) u _ _ rfl (HJ.out.alloc _).own (some ⟨wr.heap.size,0,none⟩) 1 1 (opCs [on[j]]) rfl rfl (Or.inr ⟨_,rfl,World.news_of_block (heap_alloc_new wr _)⟩) (opCs_one _) (by unfold maxLen;omega) (by omega) (HJ.out.alloc _).below.size ?_;intro v2 w2 ho2 hg2 hv2;have H2:=hid2 ((HJ.out.alloc _).app ho2 hg2);have hcs:=((OwnO.at0 HO.out).below H2.out.below).cells hjl;simp only [Nat.zero_add] at hcs;obtain ⟨k0,k1,k2,k3,k4,k5⟩:=hcs;clear ho2 hg2 hv2)
       | (go_at_call 124;refine (keyG _ _ _ _ _ _ HKn.out.1 HKn.out.2 _).mono ?_;rintro e w3 ⟨rfl,hb3⟩;have H3:=hid2 (H2.out.kept hb3);clear hb3 H2 k0 k1 k2 k3 k4 k5)
       | (go_at_call 211;refine (HFj.out _ (HB.out.trans (H3.out.below.mono HB.out.size))).mono ?_;rintro e w4 ⟨⟨vm,rfl,hom⟩,hb4⟩;have H4:=hid2 (H3.out.kept hb4);have HOm:=hid2 hom;clear hb4 H3 hom)
       | (at_builtin;refine wpList_append_any rfl (.tmp 103) (.tmp 104) 32 rfl _ 43 io _ 6 40 Tryz.underlying32 oi oz0 oz1 oz2 rfl (by decide) v2 _ _ rfl H4.out.own _ (f on[j]).length _ (opCs (f on[j])) (HXm HOm.out).choose_spec.choose_spec.1 (opCs_len _) (HXm HOm.out).choose_spec.choose_spec.2 (opCs_one _) (by unfold maxLen;omega) (by omega) H4.out.below.size ?_;intro v5 w5 ho5 hg5 hv5;have H5:=hid2 (H4.out.app ho5 hg5);clear ho5 hg5 hv5))
      have HF:Hid (AppG 43 6 wo w5 v5 ((on.take (j+1)).flatMap fun o=>o::f o).length (opCs ((on.take (j+1)).flatMap fun o=>o::f o))):=by
       show AppG _ _ _ _ _ _ _
       rw [HFT.out,List.length_append,List.length_cons,show on[j]::f on[j]=[on[j]]++f on[j] from rfl,opCs_app,opCs_app,← List.append_assoc,show pre.length+((f on[j]).length+1)=pre.length+1+(f on[j]).length by omega]
       exact H5.out
      go_roundw
      case rel=>exact ⟨j+1,v5,hjl,rfl,by go_num,HF⟩
      case measure=>simp [intOf];omega
     ·obtain rfl:j=on.length:=by omega
      rw [List.take_length] at HJ
      go_wp2_with fail
      go_ret
      exact ⟨⟨_,rfl,by rw [HONE.out];exact HJ.out.ownO HB.out.size rfl rfl⟩,HB.out.trans (HJ.out.below.mono HB.out.size)⟩
end Go.Proofs.YtgccjefbedpmpaaGreatDoor

import Derived.Test.YtgccjefbedpmpaaGreatDoorYSortU1
import Derived.Sort.WalkC
import Derived.Sort.LotC
import Derived.Deep.CutBlock
import Derived.Sort.WalkA6
namespace Go.Proofs.YtgccjefbedpmpaaGreatDoor
open Go.Shelf Go.RowKit Go.Sort
set_option maxRecDepth 100000
set_option maxHeartbeats 8000000
theorem vg {p:Prop} (h:p):Hid p:=h
theorem partEqU (blk off cap a b pv:Nat) (d0 d:Array Int) (w0 w:World) (R:Row1 uV w0 blk off d0) (hs:d.size=d0.size) (S:SW uV w0 blk off d w) (hab:a<b) (hb:b≤d.size) (hp:pv<d.size) (hsz:d.size<4611686018427387904) :
  Cs 311 #[.slice (some (Ad blk off)) d.size cap,I6 a,I6 b,I6 pv] w fun e w'=>e=.returned (I6 (partitionEqual uLt d a b pv).1)∧SW uV w0 blk off (partitionEqual uLt d a b pv).2 w':=by
 have HS:Hid (d.size=d0.size):=hs;obtain ⟨G,hG⟩:∃ G:Nat→Int,∀ t,G t=d[t]! := ⟨fun t=>d[t]!,fun _=>rfl⟩;obtain ⟨hcw,hfw⟩:=fam R S hs hs G hG
 have S1:Hid (SW uV w0 blk off (swp d a pv) ((w.setCell ⟨blk,off+a,none⟩ (U6 (G pv))).setCell ⟨blk,off+pv,none⟩ (U6 (G a))).drew):=by
  have q:=S.swapped R a pv (by omega) hp;rw [hG,hG];exact q
 obtain ⟨u2,c2⟩:=S.c2 R hs a pv (by omega) hp (U6 (G pv));generalize hr:partitionEqual uLt d a b pv=r;have HR:Hid (partEqLoop uLt a (a+1) (b-1) (swp d a pv)=r):=hr;have hsz1:(swp d a pv).size=d.size:=size_swp _ _ _;clear S hs hG hr;go_enter Tryz.func311,Tryz.ntmps311;go_wp2_with fail;go_region;generalize World.drew _=w1 at S1 ⊢;generalize swp d a pv=d1 at *;clear hcw hfw c2;go_wp2_with fail;go_loopg [9,10] (b-a) (fun g vi vj wr=>∃ (i j:Nat) (dk:Array Int),vi=I6 i∧vj=I6 j∧a<i∧i≤j+1∧j<b∧j+1-i<g∧dk.size=d.size∧Hid (SW uV w0 blk off dk wr)∧Hid (partEqLoop uLt a i j dk=r))
 case atStart=>exact ⟨a+1,b-1,d1,by go_num,by congr 1;omega,by omega,by omega,by omega,by omega,hsz1,S1,HR⟩
 case round=>
  clear S1 HR;obtain ⟨i,j,dk,rfl,rfl,hai,hij,hjb,hg,hsk,S2,HL⟩:=hrel;obtain ⟨G,hG⟩:∃ G:Nat→Int,∀ t,G t=dk[t]! := ⟨fun t=>dk[t]!,fun _=>rfl⟩;have HG:Hid (∀ t,G t=dk[t]!):=hG;clear hG;go_upto_block 2 with fail
  go_cut [9] (fun vi wx=>∃ i2:Nat,vi=I6 i2∧i≤i2∧i2≤j+1∧Hid (SW uV w0 blk off dk wx)∧Hid (scanUp (fun x=>!uLt dk[a]! x) dk j i=i2))
  case first=>
   go_wp2_with fail;go_loopg [9] (j+1-i) (fun g2 vi wr=>∃ k:Nat,vi=I6 k∧i≤k∧k≤j+1∧j+1-k≤g2∧Hid (SW uV w0 blk off dk wr)∧Hid (scanUp (fun x=>!uLt dk[a]! x) dk j k=scanUp (fun x=>!uLt dk[a]! x) dk j i))
   case atStart=>exact ⟨i,rfl,qb _,hij,qb _,S2,rfl⟩
   case round=>
    clear S2;obtain ⟨k,rfl,hik,hkj,hg2,S3,HU⟩:=hrel;by_cases hk:k≤j
    ·have hkz:(k:Int)≤(j:Int):=by omega
     obtain ⟨hcw,hfw⟩:=fam R S3.out (hsk.trans HS.out) HS.out G HG.out;cases hl:uLt (G a) (G k)
     ·go_wp2_with fail;go_quiet (first|(go_at_call 310;refine Calls.quiet_of_same (xd _ _ _)));go_wp2;go_roundg (j+1-(k+1))
      case measure=>omega
      case rel=>exact ⟨k+1,by go_num,by omega,by omega,qb _,vg (S3.out.drewN _),vg (by rw [← HU.out];exact (scanUp_go _ dk j k hk (by show _=true;rw [← HG.out,← HG.out,hl]<;>rfl)).symm)⟩
     ·go_wp2_with fail;go_quiet (first|(go_at_call 310;refine Calls.quiet_of_same (xd _ _ _)));go_wp2;go_meet;exact ⟨k,rfl,hik,hkj,vg (S3.out.drewN _),vg (by rw [← HU.out];exact scanUp_end _ dk j k (Or.inr (by show _=false;rw [← HG.out,← HG.out,hl]<;>rfl)))⟩
    ·have hkz:¬ (k:Int)≤(j:Int):=by omega
     go_wp2_with fail;go_quiet (first|(go_at_call 310;refine Calls.quiet_of_same (xd _ _ _)));go_wp2;go_meet;exact ⟨k,rfl,hik,hkj,vg (S3.out.drewN _),vg (by rw [← HU.out];exact scanUp_end _ dk j k (Or.inl hk))⟩
  case rest=>
   clear S2;obtain ⟨i2,rfl,hii2,hi2j,S4,HU⟩:=hcut;go_upto_block 4 with fail
   go_cut [10] (fun vj wx=>∃ j2:Nat,vj=I6 j2∧j2≤j∧i2≤j2+1∧Hid (SW uV w0 blk off dk wx)∧Hid (scanDown (fun x=>uLt dk[a]! x) dk i2 j=j2))
   case first=>
    go_wp2_with fail;go_loopg [10] (j+1) (fun g2 vj wr=>∃ k:Nat,vj=I6 k∧k≤j∧i2≤k+1∧k<g2∧Hid (SW uV w0 blk off dk wr)∧Hid (scanDown (fun x=>uLt dk[a]! x) dk i2 k=scanDown (fun x=>uLt dk[a]! x) dk i2 j))
    case atStart=>exact ⟨j,rfl,qb _,hi2j,Nat.lt_succ_self _,S4,rfl⟩
    case round=>
     clear S4;obtain ⟨k,rfl,hkj,hik,hg2,S3,HU⟩:=hrel;by_cases hk:i2≤k
     ·have hkz:(i2:Int)≤(k:Int):=by omega
      obtain ⟨hcw,hfw⟩:=fam R S3.out (hsk.trans HS.out) HS.out G HG.out;cases hl:uLt (G a) (G k)
      ·go_wp2_with fail;go_quiet (first|(go_at_call 310;refine Calls.quiet_of_same (xd _ _ _)));go_wp2;go_meet;exact ⟨k,rfl,hkj,hik,vg (S3.out.drewN _),vg (by rw [← HU.out];exact scanDown_end _ dk i2 k (Or.inr (by show _=false;rw [← HG.out,← HG.out,hl]<;>rfl)))⟩
      ·go_wp2_with fail;go_quiet (first|(go_at_call 310;refine Calls.quiet_of_same (xd _ _ _)));go_wp2;go_roundg k
       case measure=>omega
       case rel=>exact ⟨k-1,by congr 1;omega,by omega,by omega,by omega,vg (S3.out.drewN _),vg (by rw [← HU.out];exact (scanDown_go _ dk i2 k hk (by omega) (by show _=true;rw [← HG.out,← HG.out,hl]<;>rfl)).symm)⟩
     ·have hkz:¬ (i2:Int)≤(k:Int):=by omega
      go_wp2_with fail;go_quiet (first|(go_at_call 310;refine Calls.quiet_of_same (xd _ _ _)));go_wp2;go_meet;exact ⟨k,rfl,hkj,hik,vg (S3.out.drewN _),vg (by rw [← HU.out];exact scanDown_end _ dk i2 k (Or.inl hk))⟩
   case rest=>
    clear S4;obtain ⟨j2,rfl,hj2j,hi2j2,S5,HD⟩:=hcut
    have hE:partEqLoop uLt a i j dk=if i2 > j2 then (i2,dk) else partEqLoop uLt a (i2+1) (j2-1) (swp dk i2 j2):=by
     rw [partEqLoop_eq,HU.out,HD.out]
    have HE:Hid ((if i2 > j2 then (i2,dk) else partEqLoop uLt a (i2+1) (j2-1) (swp dk i2 j2))=r):=hE.symm.trans HL.out;have hne:¬ i2 > j2→i2<j2:=fun h=>scans_lt uLt a i j dk (by omega) HU.out.symm HD.out.symm (by omega);clear hE HU HD HL;by_cases hbr:i2 > j2
    ·have hbz:(j2:Int)<(i2:Int):=by omega
     rw [if_pos hbr] at HE;go_wp2;go_ret;rw [← HE.out];exact ⟨rfl,S5.out⟩
    ·have hbz:¬ (j2:Int)<(i2:Int):=by omega
     rw [if_neg hbr] at HE;have hlt2:=hne hbr;obtain ⟨hcw,hfw⟩:=fam R S5.out (hsk.trans HS.out) HS.out G HG.out;obtain ⟨u2,c2⟩:=S5.out.c2 R (hsk.trans HS.out) i2 j2 (by omega) (by omega) (U6 (G j2))
     have S6:Hid (SW uV w0 blk off (swp dk i2 j2) ((wc.setCell ⟨blk,off+i2,none⟩ (U6 (G j2))).setCell ⟨blk,off+j2,none⟩ (U6 (G i2))).drew):=by
      have q:=S5.out.swapped R i2 j2 (by omega) (by omega);rw [HG.out,HG.out];exact q
     go_wp2_with fail;go_region;generalize World.drew _=w6 at S6 ⊢;go_wp2;go_roundg (j2-1+1-(i2+1)+1)
     case measure=>omega
     case rel=>exact ⟨i2+1,j2-1,swp dk i2 j2,by go_num,by congr 1;omega,by omega,by omega,by omega,by omega,by rw [size_swp];exact hsk,S6,HE⟩
theorem scans_lt2 (p:Int→Bool) (dk:Array Int) (i j:Nat) (h0:0<i) {i2 j2:Nat} (hU:scanUp p dk j i=i2) (hD:scanDown (fun x=>!p x) dk i2 j=j2) (h:i2≤j2):i2<j2:=by
 subst hU;subst hD;obtain ⟨u1,_,_,u4⟩:=scanUp_spec p dk j _ i rfl;obtain ⟨v1,_,_,v4⟩:=scanDown_spec (fun x=>!p x) dk (scanUp p dk j i) j;rcases zr (scanUp p dk j i) (scanDown (fun x=>!p x) dk (scanUp p dk j i) j) with h'|h'
 ·exact h'
 ·have e:scanDown (fun x=>!p x) dk (scanUp p dk j i) j=scanUp p dk j i:=by omega
  have f1:=u4 (by omega);have f2:=v4 h (by omega);rw [e] at f2;rw [f1] at f2;cases f2
theorem partU (blk off cap a b pv:Nat) (d0 d:Array Int) (w0 w:World) (R:Row1 uV w0 blk off d0) (hs:d.size=d0.size) (S:SW uV w0 blk off d w) (hab:a<b) (hb:b≤d.size) (hp:pv<d.size) (hsz:d.size<4611686018427387904) :
  Cs 312 #[.slice (some (Ad blk off)) d.size cap,I6 a,I6 b,I6 pv] w fun e w'=>e=.returned (.tuple #[I6 (partition uLt d a b pv).1,.bool (partition uLt d a b pv).2.1])∧SW uV w0 blk off (partition uLt d a b pv).2.2 w':=by
 have HS:Hid (d.size=d0.size):=hs;obtain ⟨G0,hG⟩:∃ G:Nat→Int,∀ t,G t=d[t]! := ⟨fun t=>d[t]!,fun _=>rfl⟩;obtain ⟨hcw,hfw⟩:=fam R S hs hs G0 hG;obtain ⟨u2,c2⟩:=S.c2 R hs a pv (by omega) hp (U6 (G0 pv))
 have S2:Hid (SW uV w0 blk off (swp d a pv) ((w.setCell ⟨blk,off+a,none⟩ (U6 (G0 pv))).setCell ⟨blk,off+pv,none⟩ (U6 (G0 a))).drew):=by
  have q:=S.swapped R a pv (by omega) hp;rw [hG,hG];exact q
 have hsk:(swp d a pv).size=d.size:=size_swp _ _ _;obtain ⟨i,hi⟩:∃ i,i=a+1:=⟨_,rfl⟩;obtain ⟨j,hj⟩:∃ j,j=b-1:=⟨_,rfl⟩;have hi1:(a:Int)+1=(i:Int):=by omega
 have hj1:(b:Int)-1=(j:Int):=by omega
 have hij:i≤j+1:=by omega
 have hai:a<i:=by omega
 have hia:i≤a+1:=by omega
 have hjb:j<b:=by omega
 have hbj:b≤j+1:=by omega
 obtain ⟨dk,hdk⟩:∃ dk,swp d a pv=dk:=⟨_,rfl⟩;have HDK:Hid (swp d a pv=dk∧i=a+1∧j=b-1):=⟨hdk,hi,hj⟩;rw [hdk] at S2 hsk;generalize hrr:partition uLt d a b pv=rr;have HRR:Hid (partition uLt d a b pv=rr):=hrr;clear S hs hG hdk hi hj hrr;go_enter Tryz.func312,Tryz.ntmps312;go_wp2_with fail;go_region;generalize World.drew _=w1 at S2 ⊢;clear hcw hfw c2;obtain ⟨G,hG⟩:∃ G:Nat→Int,∀ t,G t=dk[t]! := ⟨fun t=>dk[t]!,fun _=>rfl⟩;have HG:Hid (∀ t,G t=dk[t]!):=hG;clear hG;go_upto_block 0 with fail;go_cut [10] (fun vi wx=>∃ i2:Nat,vi=I6 i2∧i≤i2∧i2≤j+1∧Hid (SW uV w0 blk off dk wx)∧Hid (scanUp (fun x=>uLt x dk[a]!) dk j i=i2))
 case first=>
  go_wp2_with fail;go_loopg [10] (j+1-i) (fun g2 vi wr=>∃ k:Nat,vi=I6 k∧i≤k∧k≤j+1∧j+1-k≤g2∧Hid (SW uV w0 blk off dk wr)∧Hid (scanUp (fun x=>uLt x dk[a]!) dk j k=scanUp (fun x=>uLt x dk[a]!) dk j i))
  case atStart=>exact ⟨i,rfl,qb _,hij,qb _,S2,rfl⟩
  case round=>
   clear S2;obtain ⟨k,rfl,hik,hkj,hg2,S3,HU⟩:=hrel;by_cases hk:k≤j
   ·have hkz:(k:Int)≤(j:Int):=by omega
    obtain ⟨hcw,hfw⟩:=fam R S3.out (hsk.trans HS.out) HS.out G HG.out;cases hl:uLt (G k) (G a)
    ·go_wp2_with fail;go_quiet (first|(go_at_call 310;refine Calls.quiet_of_same (xd _ _ _)));go_wp2;go_meet;exact ⟨k,rfl,hik,hkj,vg (S3.out.drewN _),vg (by rw [← HU.out];exact scanUp_end _ dk j k (Or.inr (by show _=false;rw [← HG.out,← HG.out,hl]<;>rfl)))⟩
    ·go_wp2_with fail;go_quiet (first|(go_at_call 310;refine Calls.quiet_of_same (xd _ _ _)));go_wp2;go_roundg (j+1-(k+1))
     case measure=>omega
     case rel=>exact ⟨k+1,by go_num,by omega,by omega,qb _,vg (S3.out.drewN _),vg (by rw [← HU.out];exact (scanUp_go _ dk j k hk (by show _=true;rw [← HG.out,← HG.out,hl]<;>rfl)).symm)⟩
   ·have hkz:¬ (k:Int)≤(j:Int):=by omega
    go_wp2_with fail;go_quiet (first|(go_at_call 310;refine Calls.quiet_of_same (xd _ _ _)));go_wp2;go_meet;exact ⟨k,rfl,hik,hkj,vg (S3.out.drewN _),vg (by rw [← HU.out];exact scanUp_end _ dk j k (Or.inl hk))⟩
 case rest=>
  clear S2;obtain ⟨i2,rfl,hii2,hi2j,S4,HU⟩:=hcut;go_upto_block 2 with fail
  go_cut [11] (fun vj wx=>∃ j2:Nat,vj=I6 j2∧j2≤j∧i2≤j2+1∧Hid (SW uV w0 blk off dk wx)∧Hid (scanDown (fun x=>!uLt x dk[a]!) dk i2 j=j2))
  case first=>
   go_wp2_with fail;go_loopg [11] (j+1) (fun g2 vj wr=>∃ k:Nat,vj=I6 k∧k≤j∧i2≤k+1∧k<g2∧Hid (SW uV w0 blk off dk wr)∧Hid (scanDown (fun x=>!uLt x dk[a]!) dk i2 k=scanDown (fun x=>!uLt x dk[a]!) dk i2 j))
   case atStart=>exact ⟨j,rfl,qb _,hi2j,Nat.lt_succ_self _,S4,rfl⟩
   case round=>
    clear S4;obtain ⟨k,rfl,hkj,hik,hg2,S3,HU⟩:=hrel;by_cases hk:i2≤k
    ·have hkz:(i2:Int)≤(k:Int):=by omega
     obtain ⟨hcw,hfw⟩:=fam R S3.out (hsk.trans HS.out) HS.out G HG.out;cases hl:uLt (G k) (G a)
     ·go_wp2_with fail;go_quiet (first|(go_at_call 310;refine Calls.quiet_of_same (xd _ _ _)));go_wp2;go_roundg k
      case measure=>omega
      case rel=>exact ⟨k-1,by congr 1;omega,by omega,by omega,by omega,vg (S3.out.drewN _),vg (by rw [← HU.out];exact (scanDown_go _ dk i2 k hk (by omega) (by show _=true;rw [← HG.out,← HG.out,hl]<;>rfl)).symm)⟩
     ·go_wp2_with fail;go_quiet (first|(go_at_call 310;refine Calls.quiet_of_same (xd _ _ _)));go_wp2;go_meet;exact ⟨k,rfl,hkj,hik,vg (S3.out.drewN _),vg (by rw [← HU.out];exact scanDown_end _ dk i2 k (Or.inr (by show _=false;rw [← HG.out,← HG.out,hl]<;>rfl)))⟩
    ·have hkz:¬ (i2:Int)≤(k:Int):=by omega
     go_wp2_with fail;go_quiet (first|(go_at_call 310;refine Calls.quiet_of_same (xd _ _ _)));go_wp2;go_meet;exact ⟨k,rfl,hkj,hik,vg (S3.out.drewN _),vg (by rw [← HU.out];exact scanDown_end _ dk i2 k (Or.inl hk))⟩
  case rest=>
   clear S4;obtain ⟨j2,rfl,hj2j,hi2j2,S5,HD⟩:=hcut
   have hP:rr=if i2 > j2 then (j2,true,swp dk j2 a) else ((partLoop uLt a (i2+1) (j2-1) (swp dk i2 j2)).1,false,swp (partLoop uLt a (i2+1) (j2-1) (swp dk i2 j2)).2 (partLoop uLt a (i2+1) (j2-1) (swp dk i2 j2)).1 a):=by
    obtain ⟨e1,e2,e3⟩:=HDK.out;rw [← HRR.out];unfold partition;rw [e1,← e2,← e3];show (if scanUp (fun x=>uLt x dk[a]!) dk j i > scanDown (fun x=>!uLt x dk[a]!) dk (scanUp (fun x=>uLt x dk[a]!) dk j i) j then _ else _)=_;rw [HU.out,HD.out]
   have hne:¬ i2 > j2→i2<j2:=fun h=>scans_lt2 (fun x=>uLt x dk[a]!) dk i j (by omega) HU.out HD.out (by omega);have HP:Hid (rr=if i2 > j2 then (j2,true,swp dk j2 a) else ((partLoop uLt a (i2+1) (j2-1) (swp dk i2 j2)).1,false,swp (partLoop uLt a (i2+1) (j2-1) (swp dk i2 j2)).2 (partLoop uLt a (i2+1) (j2-1) (swp dk i2 j2)).1 a)):=hP;clear hP HU HD HDK HRR;by_cases hbr:i2 > j2
   ·have hbz:(j2:Int)<(i2:Int):=by omega
    rw [if_pos hbr] at HP;obtain ⟨hcw,hfw⟩:=fam R S5.out (hsk.trans HS.out) HS.out G HG.out;obtain ⟨u2,c2⟩:=S5.out.c2 R (hsk.trans HS.out) j2 a (by omega) (by omega) (U6 (G a))
    have S6:Hid (SW uV w0 blk off (swp dk j2 a) ((wc.setCell ⟨blk,off+j2,none⟩ (U6 (G a))).setCell ⟨blk,off+a,none⟩ (U6 (G j2))).drew):=by
     have q:=S5.out.swapped R j2 a (by omega) (by omega);rw [HG.out,HG.out];exact q
    go_wp2_with fail;go_region;generalize World.drew _=w6 at S6 ⊢;clear hcw hfw c2;go_wp2;go_ret2;rw [HP.out];exact ⟨rfl,S6.out⟩
   ·have hbz:¬ (j2:Int)<(i2:Int):=by omega
    rw [if_neg hbr] at HP;have hlt2:=hne hbr;obtain ⟨hcw,hfw⟩:=fam R S5.out (hsk.trans HS.out) HS.out G HG.out;obtain ⟨u2,c2⟩:=S5.out.c2 R (hsk.trans HS.out) i2 j2 (by omega) (by omega) (U6 (G j2))
    have S1:Hid (SW uV w0 blk off (swp dk i2 j2) ((wc.setCell ⟨blk,off+i2,none⟩ (U6 (G j2))).setCell ⟨blk,off+j2,none⟩ (U6 (G i2))).drew):=by
     have q:=S5.out.swapped R i2 j2 (by omega) (by omega);rw [HG.out,HG.out];exact q
    go_wp2_with fail;go_region;generalize World.drew _=w6 at S1 ⊢;clear hcw hfw c2;have hsz6:(swp dk i2 j2).size=d.size:=by rw [size_swp];exact hsk
    obtain ⟨r,hr⟩:∃ r,partLoop uLt a (i2+1) (j2-1) (swp dk i2 j2)=r:=⟨_,rfl⟩;have HR:Hid (partLoop uLt a (i2+1) (j2-1) (swp dk i2 j2)=r):=hr;rw [hr] at HP;generalize swp dk i2 j2=d6 at *;clear hr;go_wp2_with fail;go_loopg [10,11] (b-a) (fun g vi vj wr=>∃ (i j:Nat) (dk:Array Int),vi=I6 i∧vj=I6 j∧a<i∧i≤j+1∧j<b∧j+1-i<g∧dk.size=d.size∧Hid (SW uV w0 blk off dk wr)∧Hid (partLoop uLt a i j dk=r))
    case atStart=>exact ⟨i2+1,j2-1,d6,by go_num,by congr 1;omega,by omega,by omega,by omega,by omega,hsz6,S1,HR⟩
    case round=>
     clear hbr hbz hlt2 hne hii2 hi2j hi2j2 hj2j HG hsz6 hsk S5 hij hai hia hjb hbj hi1 hj1;clear S1 HR;obtain ⟨i,j,dk,rfl,rfl,hai,hij,hjb,hg,hsk,S2,HL⟩:=hrel;obtain ⟨G,hG⟩:∃ G:Nat→Int,∀ t,G t=dk[t]! := ⟨fun t=>dk[t]!,fun _=>rfl⟩;have HG:Hid (∀ t,G t=dk[t]!):=hG;clear hG;go_upto_block 6 with fail
     go_cut [10] (fun vi wx=>∃ i2:Nat,vi=I6 i2∧i≤i2∧i2≤j+1∧Hid (SW uV w0 blk off dk wx)∧Hid (scanUp (fun x=>uLt x dk[a]!) dk j i=i2))
     case first=>
      go_wp2_with fail;go_loopg [10] (j+1-i) (fun g2 vi wr=>∃ k:Nat,vi=I6 k∧i≤k∧k≤j+1∧j+1-k≤g2∧Hid (SW uV w0 blk off dk wr)∧Hid (scanUp (fun x=>uLt x dk[a]!) dk j k=scanUp (fun x=>uLt x dk[a]!) dk j i))
      case atStart=>exact ⟨i,rfl,qb _,hij,qb _,S2,rfl⟩
      case round=>
       clear S2;obtain ⟨k,rfl,hik,hkj,hg2,S3,HU⟩:=hrel;by_cases hk:k≤j
       ·have hkz:(k:Int)≤(j:Int):=by omega
        obtain ⟨hcw,hfw⟩:=fam R S3.out (hsk.trans HS.out) HS.out G HG.out;cases hl:uLt (G k) (G a)
        ·go_wp2_with fail;go_quiet (first|(go_at_call 310;refine Calls.quiet_of_same (xd _ _ _)));go_wp2;go_meet;exact ⟨k,rfl,hik,hkj,vg (S3.out.drewN _),vg (by rw [← HU.out];exact scanUp_end _ dk j k (Or.inr (by show _=false;rw [← HG.out,← HG.out,hl]<;>rfl)))⟩
        ·go_wp2_with fail;go_quiet (first|(go_at_call 310;refine Calls.quiet_of_same (xd _ _ _)));go_wp2;go_roundg (j+1-(k+1))
         case measure=>omega
         case rel=>exact ⟨k+1,by go_num,by omega,by omega,qb _,vg (S3.out.drewN _),vg (by rw [← HU.out];exact (scanUp_go _ dk j k hk (by show _=true;rw [← HG.out,← HG.out,hl]<;>rfl)).symm)⟩
       ·have hkz:¬ (k:Int)≤(j:Int):=by omega
        go_wp2_with fail;go_quiet (first|(go_at_call 310;refine Calls.quiet_of_same (xd _ _ _)));go_wp2;go_meet;exact ⟨k,rfl,hik,hkj,vg (S3.out.drewN _),vg (by rw [← HU.out];exact scanUp_end _ dk j k (Or.inl hk))⟩
     case rest=>
      clear S2;obtain ⟨i2,rfl,hii2,hi2j,S4,HU⟩:=hcut;go_upto_block 8 with fail
      go_cut [11] (fun vj wx=>∃ j2:Nat,vj=I6 j2∧j2≤j∧i2≤j2+1∧Hid (SW uV w0 blk off dk wx)∧Hid (scanDown (fun x=>!uLt x dk[a]!) dk i2 j=j2))
      case first=>
       go_wp2_with fail;go_loopg [11] (j+1) (fun g2 vj wr=>∃ k:Nat,vj=I6 k∧k≤j∧i2≤k+1∧k<g2∧Hid (SW uV w0 blk off dk wr)∧Hid (scanDown (fun x=>!uLt x dk[a]!) dk i2 k=scanDown (fun x=>!uLt x dk[a]!) dk i2 j))
       case atStart=>exact ⟨j,rfl,qb _,hi2j,Nat.lt_succ_self _,S4,rfl⟩
       case round=>
        clear S4;obtain ⟨k,rfl,hkj,hik,hg2,S3,HU⟩:=hrel;by_cases hk:i2≤k
        ·have hkz:(i2:Int)≤(k:Int):=by omega
         obtain ⟨hcw,hfw⟩:=fam R S3.out (hsk.trans HS.out) HS.out G HG.out;cases hl:uLt (G k) (G a)
         ·go_wp2_with fail;go_quiet (first|(go_at_call 310;refine Calls.quiet_of_same (xd _ _ _)));go_wp2;go_roundg k
          case measure=>omega
          case rel=>exact ⟨k-1,by congr 1;omega,by omega,by omega,by omega,vg (S3.out.drewN _),vg (by rw [← HU.out];exact (scanDown_go _ dk i2 k hk (by omega) (by show _=true;rw [← HG.out,← HG.out,hl]<;>rfl)).symm)⟩
         ·go_wp2_with fail;go_quiet (first|(go_at_call 310;refine Calls.quiet_of_same (xd _ _ _)));go_wp2;go_meet;exact ⟨k,rfl,hkj,hik,vg (S3.out.drewN _),vg (by rw [← HU.out];exact scanDown_end _ dk i2 k (Or.inr (by show _=false;rw [← HG.out,← HG.out,hl]<;>rfl)))⟩
        ·have hkz:¬ (i2:Int)≤(k:Int):=by omega
         go_wp2_with fail;go_quiet (first|(go_at_call 310;refine Calls.quiet_of_same (xd _ _ _)));go_wp2;go_meet;exact ⟨k,rfl,hkj,hik,vg (S3.out.drewN _),vg (by rw [← HU.out];exact scanDown_end _ dk i2 k (Or.inl hk))⟩
      case rest=>
       clear S4;obtain ⟨j2,rfl,hj2j,hi2j2,S5,HD⟩:=hcut
       have hE:partLoop uLt a i j dk=if i2 > j2 then (j2,dk) else partLoop uLt a (i2+1) (j2-1) (swp dk i2 j2):=by
        rw [partLoop_eq,HU.out,HD.out]
       have HE:Hid ((if i2 > j2 then (j2,dk) else partLoop uLt a (i2+1) (j2-1) (swp dk i2 j2))=r):=hE.symm.trans HL.out;have hne:¬ i2 > j2→i2<j2:=fun h=>scans_lt2 (fun x=>uLt x dk[a]!) dk i j (by omega) HU.out HD.out (by omega);clear hE HU HD HL;by_cases hbr:i2 > j2
       ·have hbz:(j2:Int)<(i2:Int):=by omega
        rw [if_pos hbr] at HE;obtain ⟨hcw,hfw⟩:=fam R S5.out (hsk.trans HS.out) HS.out G HG.out;obtain ⟨u2,c2⟩:=S5.out.c2 R (hsk.trans HS.out) j2 a (by omega) (by omega) (U6 (G a))
        have S6:Hid (SW uV w0 blk off (swp dk j2 a) ((wc.setCell ⟨blk,off+j2,none⟩ (U6 (G a))).setCell ⟨blk,off+a,none⟩ (U6 (G j2))).drew):=by
         have q:=S5.out.swapped R j2 a (by omega) (by omega);rw [HG.out,HG.out];exact q
        go_wp2_with fail;go_region;generalize World.drew _=w6 at S6 ⊢;clear hcw hfw c2;go_wp2;go_ret2;rw [HP.out,← HE.out];exact ⟨rfl,S6.out⟩
       ·have hbz:¬ (j2:Int)<(i2:Int):=by omega
        rw [if_neg hbr] at HE;have hlt2:=hne hbr;obtain ⟨hcw,hfw⟩:=fam R S5.out (hsk.trans HS.out) HS.out G HG.out;obtain ⟨u2,c2⟩:=S5.out.c2 R (hsk.trans HS.out) i2 j2 (by omega) (by omega) (U6 (G j2))
        have S6:Hid (SW uV w0 blk off (swp dk i2 j2) ((wc.setCell ⟨blk,off+i2,none⟩ (U6 (G j2))).setCell ⟨blk,off+j2,none⟩ (U6 (G i2))).drew):=by
         have q:=S5.out.swapped R i2 j2 (by omega) (by omega);rw [HG.out,HG.out];exact q
        go_wp2_with fail;go_region;generalize World.drew _=w6 at S6 ⊢;clear hcw hfw c2;go_wp2;go_roundg (j2-1+1-(i2+1)+1)
        case measure=>omega
        case rel=>exact ⟨i2+1,j2-1,swp dk i2 j2,by go_num,by congr 1;omega,by omega,by omega,by omega,by omega,by rw [size_swp];exact hsk,S6,HE⟩
theorem partialU (blk off cap a b:Nat) (d0 d:Array Int) (w0 w:World) (R:Row1 uV w0 blk off d0) (hs:d.size=d0.size) (S:SW uV w0 blk off d w) (hab:a<b) (hb:b≤d.size) (hsz:d.size<4611686018427387904) :
  Cs 309 #[.slice (some (Ad blk off)) d.size cap,I6 a,I6 b] w fun e w'=>e=.returned (.bool (partialInsertionSort uLt d a b).2)∧SW uV w0 blk off (partialInsertionSort uLt d a b).1 w':=by
 have HS:Hid (d.size=d0.size):=hs;generalize hrr:partialInsertionSort uLt d a b=rr;have HRR:Hid (partialIns uLt a b 5 (a+1) d=rr):=hrr;have S1:Hid (SW uV w0 blk off d w):=S;clear S hs hrr;go_enter Tryz.func309,Tryz.ntmps309;go_wp2_with fail;go_loopg [7,8] 5 (fun g1 vi vs wr=>∃ (i s:Nat) (dk:Array Int),vi=I6 i∧vs=I6 s∧s≤5∧5-s≤g1∧a<i∧i≤b∧dk.size=d.size∧Hid (SW uV w0 blk off dk wr)∧Hid (partialIns uLt a b (5-s) i dk=rr))
 case atStart=>exact ⟨a+1,0,d,by go_num,rfl,by omega,by omega,by omega,by omega,rfl,S1,HRR⟩
 case round=>
  clear S1;obtain ⟨i,s,dk,rfl,rfl,hs5,hg1,hai,hib,hsk,S2,HO⟩:=hrel;by_cases hs':s<5
  ·have hsz5:(s:Int)<5:=by omega
   obtain ⟨G,hG⟩:∃ G:Nat→Int,∀ t,G t=dk[t]! := ⟨fun t=>dk[t]!,fun _=>rfl⟩;have HG:Hid (∀ t,G t=dk[t]!):=hG;clear hG;go_upto_block 2 with fail;go_cut [7] (fun vi wx=>∃ k:Nat,vi=I6 k∧i≤k∧k≤b∧Hid (SW uV w0 blk off dk wx)∧Hid (scanSorted uLt dk b i=k))
   case first=>
    go_wp2_with fail;go_loopg [7] (b-i) (fun g2 vi wr=>∃ k:Nat,vi=I6 k∧i≤k∧k≤b∧b-k≤g2∧Hid (SW uV w0 blk off dk wr)∧Hid (scanSorted uLt dk b k=scanSorted uLt dk b i))
    case atStart=>exact ⟨i,rfl,qb _,hib,qb _,S2,rfl⟩
    case round=>
     clear S2;obtain ⟨k,rfl,hik,hkb,hg2,S3,HU⟩:=hrel;by_cases hk:k<b
     ·have hkz:(k:Int)<(b:Int):=by omega
      obtain ⟨hcw,hfw⟩:=fam R S3.out (hsk.trans HS.out) HS.out G HG.out;have hks:k<d.size:=by omega
      have hk1:1≤k:=by omega
      cases hl:uLt (G k) (G (k-1))
      ·go_wp2_with fail;go_quiet (first|(go_at_call 310;refine Calls.quiet_of_same (xd _ _ _)));go_wp2;go_roundg (b-(k+1))
       case measure=>omega
       case rel=>exact ⟨k+1,by go_num,by omega,by omega,qb _,vg (S3.out.drewN _),vg (by rw [← HU.out];exact (scanSorted_go uLt dk b k hk (by rw [← HG.out,← HG.out];exact hl)).symm)⟩
      ·go_wp2_with fail;go_quiet (first|(go_at_call 310;refine Calls.quiet_of_same (xd _ _ _)));go_wp2;go_meet;exact ⟨k,rfl,hik,hkb,vg (S3.out.drewN _),vg (by rw [← HU.out];exact scanSorted_stop uLt dk b k (Or.inr (by rw [← HG.out,← HG.out];exact hl)))⟩
     ·have hkz:¬ (k:Int)<(b:Int):=by omega
      go_wp2_with fail;go_quiet (first|(go_at_call 310;refine Calls.quiet_of_same (xd _ _ _)));go_wp2;go_meet;exact ⟨k,rfl,hik,hkb,vg (S3.out.drewN _),vg (by rw [← HU.out];exact scanSorted_stop uLt dk b k (Or.inl hk))⟩
   case rest=>
    clear S2;obtain ⟨k,rfl,hik,hkb,S4,HU⟩:=hcut;by_cases hk:k=b
    ·subst hk;have HE:Hid ((dk,true)=rr):=(pi_true uLt a k s i dk hs' HU.out).symm.trans HO.out;go_wp2;go_ret;rw [← HE.out];exact ⟨rfl,S4.out⟩
    ·have hkz:((k:Int)==(b:Int))=false:=beq_eq_false_iff_ne.2 (by omega);have hkz2:¬ (k:Int)=(b:Int):=by omega
     by_cases h50:b-a<50
     ·have h50z:(b:Int)-(a:Int)<50:=by omega
      have HE:Hid ((dk,false)=rr):=(pi_short uLt a b s i dk hs' (by rw [HU.out];exact hk) h50).symm.trans HO.out;go_wp2;go_ret;rw [← HE.out];exact ⟨rfl,S4.out⟩
     ·have h50z:¬ (b:Int)-(a:Int)<50:=by omega
      have HE:Hid (partialIns uLt a b (5-(s+1)) k (fixUp uLt b k (fixDown uLt a k (swp dk k (k-1))))=rr):=(pi_go uLt a b s i k dk hs' HU.out hk h50).symm.trans HO.out;obtain ⟨hcw,hfw⟩:=fam R S4.out (hsk.trans HS.out) HS.out G HG.out;have hks:k<d.size:=by omega
      have hk1:1≤k:=by omega
      have SX:Hid (SW uV w0 blk off (swp dk k (k-1)) ((wc.setCell ⟨blk,off+k,none⟩ (U6 (G (k-1)))).setCell ⟨blk,off+(k-1),none⟩ (U6 (G k))).drew):=by
       have q:=S4.out.swapped R k (k-1) (by omega) (by omega);rw [HG.out,HG.out];exact q
      go_wp2_with fail;go_region;generalize World.drew _=w5 at SX ⊢;have hs3:(swp dk k (k-1)).size=d.size:=by rw [size_swp];exact hsk
      clear hcw hfw S4 HU HO hk hkz hkz2 h50 h50z;generalize swp dk k (k-1)=d3 at *;clear HG hsk;go_upto_if 61 with fail
      go_cut [] (fun wx=>∃ dj:Array Int,dj.size=d.size∧Hid (SW uV w0 blk off dj wx)∧Hid (fixDown uLt a k d3=dj))
      case first=>
       by_cases h2:k-a≥2
       ·have h2z:(2:Int)≤(k:Int)-(a:Int):=by omega
        have HF:Hid (fixDown uLt a k d3=shiftDown uLt (k-1) d3):=by show _=_;unfold fixDown;rw [if_pos h2]
        go_wp2_with fail;go_loopg [9] (k) (fun g3 vj wr=>∃ (j:Nat) (dj:Array Int),vj=I6 j∧j≤k-1∧j<g3∧dj.size=d.size∧Hid (SW uV w0 blk off dj wr)∧Hid (shiftDown uLt j dj=shiftDown uLt (k-1) d3))
        case atStart=>exact ⟨k-1,d3,by congr 1;omega,by omega,by omega,hs3,SX,rfl⟩
        case round=>
         clear SX;obtain ⟨j,dj,rfl,hj1,hg3,hsj,SJ,HJ⟩:=hrel;by_cases hj:1≤j
         ·have hjz:(1:Int)≤(j:Int):=by omega
          obtain ⟨GJ,hGJ⟩:∃ G:Nat→Int,∀ t,G t=dj[t]! := ⟨fun t=>dj[t]!,fun _=>rfl⟩;have HGJ:Hid (∀ t,GJ t=dj[t]!):=hGJ;clear hGJ;obtain ⟨hcw,hfw⟩:=fam R SJ.out (hsj.trans HS.out) HS.out GJ HGJ.out;have hjb':j<d.size:=by omega
          cases hl:uLt (GJ j) (GJ (j-1))
          ·go_wp2_with fail;go_quiet (first|(go_at_call 310;refine Calls.quiet_of_same (xd _ _ _)));go_wp2;go_meet;exact ⟨dj,hsj,vg (SJ.out.drewN _),vg (by rw [HF.out,← HJ.out];exact shiftDown_stop uLt j dj (Or.inr (by rw [← HGJ.out,← HGJ.out];exact hl)))⟩
          ·go_wp2_with fail;go_quiet (first|(go_at_call 310;refine Calls.quiet_of_same (xd _ _ _)))
           revert nq;intro n9
           have S9:Hid (SW uV w0 blk off dj (wr.drewN n9)):=SJ.out.drewN n9;clear SJ hcw hfw;generalize wr.drewN n9=wr9 at S9 ⊢;obtain ⟨hcw,hfw⟩:=fam R S9.out (hsj.trans HS.out) HS.out GJ HGJ.out
           have S10:Hid (SW uV w0 blk off (swp dj j (j-1)) ((wr9.setCell ⟨blk,off+j,none⟩ (U6 (GJ (j-1)))).setCell ⟨blk,off+(j-1),none⟩ (U6 (GJ j))).drew):=by
            have q:=S9.out.swapped R j (j-1) (by omega) (by omega);rw [HGJ.out,HGJ.out];exact q
           go_wp2_with fail;go_region;generalize World.drew _=w10 at S10 ⊢;go_wp2;go_roundg j
           case measure=>omega
           case rel=>exact ⟨j-1,swp dj j (j-1),by first|go_num|(congr 1;omega),by omega,by omega,by rw [size_swp];exact hsj,S10,vg (by rw [← HJ.out];exact (shiftDown_go uLt j dj hj (by rw [← HGJ.out,← HGJ.out];exact hl)).symm)⟩
         ·have hjz:¬ (1:Int)≤(j:Int):=by omega
          go_wp2;go_meet;exact ⟨dj,hsj,SJ,vg (by rw [HF.out,← HJ.out];exact shiftDown_stop uLt j dj (Or.inl (by omega)))⟩
       ·have h2z:¬ (2:Int)≤(k:Int)-(a:Int):=by omega
        go_wp2;go_meet;exact ⟨d3,hs3,SX,vg (by unfold fixDown;rw [if_neg h2])⟩
      case rest=>
       clear SX;obtain ⟨d4,hs4,SX,HF⟩:=hcut;rw [HF.out] at HE;clear HF;by_cases h2:b-k≥2
       ·have h2z:(2:Int)≤(b:Int)-(k:Int):=by omega
        have HF:Hid (fixUp uLt b k d4=shiftUp uLt b (k+1) d4):=by show _=_;unfold fixUp;rw [if_pos h2]
        go_wp2_with fail;go_loopg [10] (b-k) (fun g3 vj wr=>∃ (j:Nat) (dj:Array Int),vj=I6 j∧(k+1≤j∧j≤b)∧b-j<g3∧dj.size=d.size∧Hid (SW uV w0 blk off dj wr)∧Hid (shiftUp uLt b j dj=shiftUp uLt b (k+1) d4))
        case atStart=>exact ⟨k+1,d4,by go_num,by omega,by omega,hs4,SX,rfl⟩
        case round=>
         clear SX;obtain ⟨j,dj,rfl,hj1,hg3,hsj,SJ,HJ⟩:=hrel;by_cases hj:j<b
         ·have hjz:(j:Int)<(b:Int):=by omega
          obtain ⟨GJ,hGJ⟩:∃ G:Nat→Int,∀ t,G t=dj[t]! := ⟨fun t=>dj[t]!,fun _=>rfl⟩;have HGJ:Hid (∀ t,GJ t=dj[t]!):=hGJ;clear hGJ;obtain ⟨hcw,hfw⟩:=fam R SJ.out (hsj.trans HS.out) HS.out GJ HGJ.out;have hjb':j<d.size:=by omega
          cases hl:uLt (GJ j) (GJ (j-1))
          ·go_wp2_with fail;go_quiet (first|(go_at_call 310;refine Calls.quiet_of_same (xd _ _ _)));go_wp2;go_roundg (5-(s+1))
           case measure=>omega
           case rel=>exact ⟨k,s+1,dj,rfl,by go_num,by omega,qb _,by omega,hkb,hsj,vg (SJ.out.drewN _),vg (by rw [← HE.out,HF.out,← HJ.out,shiftUp_stop uLt b j dj (Or.inr (by rw [← HGJ.out,← HGJ.out];exact hl))])⟩
          ·go_wp2_with fail;go_quiet (first|(go_at_call 310;refine Calls.quiet_of_same (xd _ _ _)))
           revert nq;intro n9
           have S9:Hid (SW uV w0 blk off dj (wr.drewN n9)):=SJ.out.drewN n9;clear SJ hcw hfw;generalize wr.drewN n9=wr9 at S9 ⊢;obtain ⟨hcw,hfw⟩:=fam R S9.out (hsj.trans HS.out) HS.out GJ HGJ.out
           have S10:Hid (SW uV w0 blk off (swp dj j (j-1)) ((wr9.setCell ⟨blk,off+j,none⟩ (U6 (GJ (j-1)))).setCell ⟨blk,off+(j-1),none⟩ (U6 (GJ j))).drew):=by
            have q:=S9.out.swapped R j (j-1) (by omega) (by omega);rw [HGJ.out,HGJ.out];exact q
           go_wp2_with fail;go_region;generalize World.drew _=w10 at S10 ⊢;go_wp2;go_roundg (b-j)
           case measure=>omega
           case rel=>exact ⟨j+1,swp dj j (j-1),by first|go_num|(congr 1;omega),by omega,by omega,by rw [size_swp];exact hsj,S10,vg (by rw [← HJ.out];exact (shiftUp_go uLt b j dj hj (by rw [← HGJ.out,← HGJ.out];exact hl)).symm)⟩
         ·have hjz:¬ (j:Int)<(b:Int):=by omega
          go_wp2;go_roundg (5-(s+1))
          case measure=>omega
          case rel=>exact ⟨k,s+1,dj,rfl,by go_num,by omega,qb _,by omega,hkb,hsj,SJ,vg (by rw [← HE.out,HF.out,← HJ.out,shiftUp_stop uLt b j dj (Or.inl (by omega))])⟩
       ·have h2z:¬ (2:Int)≤(b:Int)-(k:Int):=by omega
        go_wp2;go_roundg (5-(s+1))
        case measure=>omega
        case rel=>exact ⟨k,s+1,d4,rfl,by go_num,by omega,qb _,by omega,hkb,hs4,SX,vg (by rw [← HE.out];unfold fixUp;rw [if_neg h2])⟩
  ·obtain rfl:s=5:=by omega
   have HE:Hid ((dk,false)=rr):=(pi_end uLt a b i dk).symm.trans HO.out;go_wp2;go_ret;rw [← HE.out];exact ⟨rfl,S2.out⟩

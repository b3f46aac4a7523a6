import Derived.Test.YtgccjefbedpmpaaGreatDoorYSort1
import Derived.Test.YtgccjefbedpmpaaGreatDoorYSortU7
import Derived.Shelf.SlSortCmp.BreakPatterns1
import Derived.Sort.Walk13
import Derived.Sort.AssemblyPlain
namespace Go.Proofs.YtgccjefbedpmpaaGreatDoor
open Go.Shelf Go.RowKit Go.Sort
set_option maxRecDepth 100000
set_option maxHeartbeats 8000000
theorem break8 (blk off cap a L:Nat) (d0 d:Array Int) (w0 w:World) (R:Row1 uV w0 blk off d0) (hs:d.size=d0.size) (S:SW uV w0 blk off d w) (hb:a+L≤d.size) (hsz:d.size<4611686018427387904) (h8:8≤L) :
  Cs 306 #[.slice (some (Ad blk off)) d.size cap,I6 a,I6 ((a+L:Nat):Int)] w fun e w'=>e=.returned (.tuple #[])∧SW uV w0 blk off (breakPatterns d a (a+L)) w':=by
 have HS:Hid (d.size=d0.size):=hs;rw [breakPatterns_eq d a L h8];obtain ⟨M,hM⟩:∃ M:Nat,M=1 <<< bitsLen L:=⟨_,rfl⟩;have hM1:1≤M:=by rw [hM,Nat.one_shiftLeft];exact Nat.two_pow_pos _
 have hM2:M≤2*L:=by rw [hM,Nat.one_shiftLeft];exact two_pow_bitsLen_le (by omega)
 have HNP:Hid (∀ w,Cs 322 #[I6 (L:Int)] w fun e w'=>e=.returned (U6 (M:Int))∧w'=w):=by rw [hM];exact fun w=>AnyF.nextPowerOfTwo { sortF_lays with } L (by omega) w
 rw [← hM];clear hM;have hLz:((a:Int)+(L:Int)-(a:Int))=(L:Int):=by omega
 have h8z:(8:Int)≤(L:Int):=by omega
 have hne:w.heap.size≠blk:=by have:=S.lt R.hblk;omega
 have hle0:w0.heap.size≤w.heap.size:=S.le;have S0:Hid (SW uV w0 blk off d w):=S;clear S hs;go_enter Tryz.func306,Tryz.ntmps306;go_wp2_with (first|(go_at_call 322;refine (HNP.out _).mono ?_;rintro e w' ⟨rfl,rfl⟩));go_loopg [9] 3 (fun g1 vi wr=>∃ (t:Nat) (r:UInt64) (dk:Array Int),vi=I6 ((a:Int)+(L:Int) / 4*2-1+(t:Int))∧t≤3∧3-t≤g1∧dk.size=d.size∧Hid (SW uV w0 blk off dk wr)∧wr.cell? (Ad w.heap.size 0)=some (U6 (r.toNat:Int))∧wr.frozen? (Ad w.heap.size 0)=false∧Hid (bpRest a L M (a+L / 4*2-1) (3-t) t (r,dk)=bpRest a L M (a+L / 4*2-1) 3 0 (UInt64.ofNat L,d)))
 case atStart=>
  refine ⟨0,UInt64.ofNat L,d,by simp,by omega,by omega,rfl,vg (S0.out.alloc _),?_,by simp,rfl⟩;rw [show (UInt64.ofNat L).toNat=L from by simp;omega];simp
 case round=>
  clear S0;obtain ⟨t,r,dk,rfl,ht,hg1,hds,S1,cR,fR,HR⟩:=hrel;by_cases ht3:t<3
  ·have hle:(a:Int)+(L:Int) / 4*2-1+(t:Int)≤(a:Int)+(L:Int) / 4*2+1:=by omega
   obtain ⟨R0,hRr⟩:∃ R0:Nat,R0=r.toNat:=⟨_,rfl⟩;have lR:R0<18446744073709551616:=by rw [hRr];exact r.toNat_lt
   obtain ⟨R',hR'⟩:∃ R':Nat,R'=xorNextN R0:=⟨_,rfl⟩;have lR':R'<18446744073709551616:=by rw [hR'];exact xorNextN_lt R0 lR
   obtain ⟨O,hO⟩:∃ O:Nat,O=R' &&& (M-1):=⟨_,rfl⟩;have lO:O≤M-1:=by rw [hO];exact Nat.and_le_right
   have eAnd:bits .and .u64 (R':Int) ((M:Int)-1)=(O:Int):=by
    rw [show ((M:Int)-1)=((M-1:Nat):Int) by omega,bits_and_u64_nat _ _ lR' (by omega),hO]
   rw [← hRr] at cR
   have hNext:Cs 323 #[(pt w.heap.size 0)] wr fun e w'=>e=.returned (U6 (R':Int))∧w'=(wr.setCell (Ad w.heap.size 0) (U6 (R':Int))).drewN 3:=by
    rw [hR'];exact AnyF.xorshift_Next { sortF_lays with } _ _ R0 lR wr cR fR
   have HN:Hid (R'=(xorNext r).toNat∧O=(xorNext r).toNat &&& (M-1)):=by
    have e:R'=(xorNext r).toNat:=by rw [hR',hRr,xorNext_toNat]
    exact ⟨e,by rw [hO,e]⟩
   clear hRr hR' hO;have S2:Hid (SW uV w0 blk off dk ((wr.setCell (Ad w.heap.size 0) (U6 (R':Int))).drewN 3)):=(S1.out.setCell_new w.heap.size 0 (U6 (R':Int)) hle0).drewN 3
   have cR':((wr.setCell (Ad w.heap.size 0) (U6 (R':Int))).drewN 3).cell? (Ad w.heap.size 0)=some (U6 (R':Int)):=by
    rw [World.cell?_drewN];exact World.cell?_setCell_same _ _ _ cR
   have fR':((wr.setCell (Ad w.heap.size 0) (U6 (R':Int))).drewN 3).frozen? (Ad w.heap.size 0)=false:=by
    rw [World.frozen?_drewN];simpa using fR
   generalize (wr.setCell (Ad w.heap.size 0) (U6 (R':Int))).drewN 3=w2 at hNext S2 cR' fR';clear cR fR S1;obtain ⟨x,hx⟩:∃ x,x=a+L / 4*2-1+t:=⟨_,rfl⟩;have ex:(a:Int)+(L:Int) / 4*2-1+(t:Int)=(x:Int):=by omega
   have hxd:x<d.size:=by omega
   have HX:Hid (x=a+L / 4*2-1+t):=hx;clear hx;obtain ⟨G,hG⟩:∃ G:Nat→Int,∀ t,G t=dk[t]! := ⟨fun t=>dk[t]!,fun _=>rfl⟩;have HG:Hid (∀ t,G t=dk[t]!):=hG;clear hG;by_cases hLO:L≤O
   ·have hLOz:(L:Int)≤(O:Int):=by omega
    obtain ⟨y,hy⟩:∃ y,y=a+(O-L):=⟨_,rfl⟩;have ey:(a:Int)+((O:Int)-(L:Int))=(y:Int):=by omega
    have hyd:y<d.size:=by omega
    have HY:Hid (y=a+(O-L)):=hy;clear hy;go_wp2_with (go_at_call 323;refine hNext.mono ?_;rintro e w' ⟨rfl,hw'⟩;obtain rfl:w2=w':=hw'.symm);obtain ⟨hcw,hfw⟩:=fam R S2.out (hds.trans HS.out) HS.out G HG.out;obtain ⟨u2,c2⟩:=S2.out.c2 R (hds.trans HS.out) x y (by omega) (by omega) (U6 (G y))
    have S3:Hid (SW uV w0 blk off (swp dk x y) ((w2.setCell ⟨blk,off+x,none⟩ (U6 (G y))).setCell ⟨blk,off+y,none⟩ (U6 (G x))).drew):=by
     have q:=S2.out.swapped R x y (by omega) (by omega);rw [HG.out,HG.out];exact q
    have k1:=box_kept_swap1 (W:=w2) (blk:=blk) hne cR' fR' (off+x) (off+y) (U6 (G y)) (U6 (G x));have K1:=vg k1;clear k1;go_wp2_with fail;go_region;generalize World.drew _=w3 at S3 K1 ⊢;clear hcw hfw c2;go_wp2;go_roundg (3-(t+1))
    case measure=>omega
    case rel=>exact ⟨t+1,xorNext r,swp dk x y,by congr 1;push_cast;omega,by omega,qb _,by rw [size_swp];exact hds,S3,by rw [← HN.out.1];exact K1.out.1,K1.out.2,vg (by rw [← HR.out,bp_step a L M _ t r dk ((O-L)) ht3 (by rw [← HN.out.2,if_pos (by omega)]),← HY.out,← HX.out])⟩
   ·have hLOz:¬ (L:Int)≤(O:Int):=by omega
    obtain ⟨y,hy⟩:∃ y,y=a+O:=⟨_,rfl⟩;have ey:(a:Int)+(O:Int)=(y:Int):=by omega
    have hyd:y<d.size:=by omega
    have HY:Hid (y=a+O):=hy;clear hy;go_wp2_with (go_at_call 323;refine hNext.mono ?_;rintro e w' ⟨rfl,hw'⟩;obtain rfl:w2=w':=hw'.symm);obtain ⟨hcw,hfw⟩:=fam R S2.out (hds.trans HS.out) HS.out G HG.out;obtain ⟨u2,c2⟩:=S2.out.c2 R (hds.trans HS.out) x y (by omega) (by omega) (U6 (G y))
    have S3:Hid (SW uV w0 blk off (swp dk x y) ((w2.setCell ⟨blk,off+x,none⟩ (U6 (G y))).setCell ⟨blk,off+y,none⟩ (U6 (G x))).drew):=by
     have q:=S2.out.swapped R x y (by omega) (by omega);rw [HG.out,HG.out];exact q
    have k1:=box_kept_swap1 (W:=w2) (blk:=blk) hne cR' fR' (off+x) (off+y) (U6 (G y)) (U6 (G x));have K1:=vg k1;clear k1;go_wp2_with fail;go_region;generalize World.drew _=w3 at S3 K1 ⊢;clear hcw hfw c2;go_wp2;go_roundg (3-(t+1))
    case measure=>omega
    case rel=>exact ⟨t+1,xorNext r,swp dk x y,by congr 1;push_cast;omega,by omega,qb _,by rw [size_swp];exact hds,S3,by rw [← HN.out.1];exact K1.out.1,K1.out.2,vg (by rw [← HR.out,bp_step a L M _ t r dk (O) ht3 (by rw [← HN.out.2,if_neg (by omega)]),← HY.out,← HX.out])⟩
  ·obtain rfl:t=3:=by omega
   have hle:¬ ((a:Int)+(L:Int) / 4*2-1+((3:Nat):Int)≤(a:Int)+(L:Int) / 4*2+1):=by omega
   go_wp2;go_end0;refine ⟨rfl,?_⟩;rw [← HR.out];exact S1.out
theorem breakU (blk off cap a b:Nat) (d0 d:Array Int) (w0 w:World) (R:Row1 uV w0 blk off d0) (hs:d.size=d0.size) (S:SW uV w0 blk off d w) (hab:a≤b) (hb:b≤d.size) (hsz:d.size<4611686018427387904) :
  Cs 306 #[.slice (some (Ad blk off)) d.size cap,I6 a,I6 b] w fun e w'=>e=.returned (.tuple #[])∧SW uV w0 blk off (breakPatterns d a b) w':=by
 obtain ⟨L,rfl⟩:∃ L,b=a+L:=⟨b-a,by omega⟩;by_cases h8:8≤L
 ·exact break8 blk off cap a L d0 d w0 w R hs S hb hsz h8
 ·have hv:breakPatterns d a (a+L)=d:=by unfold breakPatterns;simp only [Nat.add_sub_cancel_left];rw [if_neg h8]
  rw [hv];have hLz:((a:Int)+(L:Int)-(a:Int))=(L:Int):=by omega
  have h8z:¬ (8:Int)≤(L:Int):=by omega
  have S0:Hid (SW uV w0 blk off d w):=S;clear S;go_enter Tryz.func306,Tryz.ntmps306;go_wp2;go_end0;exact ⟨rfl,S0.out⟩
theorem hintN_eq (h:Hint):hintN h=hintCode h:=by cases h<;>rfl
theorem uSwo:SWO uLt:=by
 refine ⟨fun x=>?_,fun x y z=>?_,fun x y z=>?_⟩<;>unfold uLt<;>simp only [decide_eq_true_eq,decide_eq_false_iff_not]<;>omega
theorem pdqU (blk off cap:Nat) (d0:Array Int) (w0:World) (R:Row1 uV w0 blk off d0):∀ (N a b limit:Nat) (d:Array Int) (w:World),b-a<N→d.size=d0.size→SW uV w0 blk off d w→a≤b→b≤d0.size→d0.size<4611686018427387904→limit<4611686018427387904→Go.Sort.Below uLt a b d →
  Cs 270 #[.slice (some (Ad blk off)) d0.size cap,I6 a,I6 b,I6 limit] w fun e w'=>e=.returned (.tuple #[])∧SW uV w0 blk off (pdq uLt d a b limit true true) w':=by
 intro N
 induction N with
 | zero=>intro _ _ _ _ _ h;exact absurd h (yl _)
 | succ N ih=>
  intro a b limit d w hN hs S hab hb hsz hlimit hBel0;have S0:=vg S;have HB0:=vg hBel0;clear S hBel0;go_enter Tryz.func270,Tryz.ntmps270;go_wp2_with fail
  go_loopg [1,2,3,8,9] (b-a) (fun kx s1 s2 s3 s8 s9 wr=>∃ (a' b' lim:Nat) (wb wp:Bool) (dk:Array Int),s1=I6 a'∧s2=I6 b'∧s3=I6 lim∧s8=.bool wb∧s9=.bool wp ∧
   a'≤b'∧b'≤d0.size∧b'-a'≤kx∧kx≤b-a∧lim≤limit∧dk.size=d0.size∧Hid (Go.Sort.Below uLt a' b' dk)∧Hid (SW uV w0 blk off dk wr)∧Hid (pdq uLt dk a' b' lim wb wp=pdq uLt d a b limit true true))
  case atStart=>exact ⟨a,b,limit,true,true,d,rfl,rfl,rfl,rfl,rfl,hab,hb,qb _,qb _,qb _,hs,HB0,S0,rfl⟩
  case round=>
   obtain ⟨a',b',lim,wb,wp,dk,rfl,rfl,rfl,rfl,rfl,hab',hb',hkx,hkN,hlim,hds,HBel,S1,A⟩:=hrel;clear S0;by_cases h12:b'-a'≤12
   ·have h12z:(b':Int)-(a':Int)≤12:=by omega
    have hc:=insU_any blk off cap a' b' d0 dk w0 wr R (by omega) S1.out hab' (by omega) (by omega);rw [hds] at hc;have HC:=vg hc;clear hc;go_wp2_with (go_at_call 304;refine HC.out.mono ?_;rintro e w1 ⟨rfl,hw1⟩)
    (try simp only [Exit.inBlock,Exit.then]);refine bodyPost_ret (results_none rfl _ _ _) rfl ?_
    refine ⟨rfl,?_⟩;rw [← A.out,pdq_small h12];exact hw1
   ·have h12z:¬ ((b':Int)-(a':Int)≤12):=by omega
    by_cases hl0:lim=0
    ·subst hl0;have hc:=heapU_any blk off cap a' b' d0 dk w0 wr R (by omega) S1.out hab' (by omega) (by omega);rw [hds] at hc;have HC:=vg hc;clear hc;go_wp2_with (go_at_call 305;refine HC.out.mono ?_;rintro e w1 ⟨rfl,hw1⟩)
     (try simp only [Exit.inBlock,Exit.then]);refine bodyPost_ret (results_none rfl _ _ _) rfl ?_
     refine ⟨rfl,?_⟩;rw [← A.out,pdq_heap h12 rfl];exact hw1
    ·have hl0z:¬ ((lim:Int)=0):=by omega
     obtain ⟨s1,B1,hc1,s2,B2,hpv,s3,B3⟩:=rd_facts (lt:=uLt) (limit:=lim) (wb:=wb) (wp:=wp) uSwo partialInsertionSort_holds reverseRange_holds (show a'<b' by omega) (show b'≤dk.size by omega) HBel.out;go_upto_if 35 with fail;go_cut [3] (fun s3 wc=>s3=I6 (Go.Sort.rd uLt dk a' b' lim wb wp).lim∧Hid (SW uV w0 blk off (Go.Sort.rd uLt dk a' b' lim wb wp).d1 wc))
     case first=>
      cases wb
      ·have hc:=breakU blk off cap a' b' d0 dk w0 wr R (by omega) S1.out hab' (by omega) (by omega);rw [hds] at hc;have HC:=vg hc;clear hc;go_wp2_with (go_at_call 306;refine HC.out.mono ?_;rintro e w1 ⟨rfl,hw1⟩);go_meet
       case rel=>
        refine ⟨?_,vg hw1⟩;show I6 ((lim:Int)-1)=I6 ((lim-1:Nat):Int);congr 1;omega
      ·go_wp2_with fail;go_meet
       case rel=>exact ⟨rfl,S1⟩
     case rest=>
      clear S1;obtain ⟨rfl,S2⟩:=hcut;have hc17:=pivotU blk off cap a' b' d0 (Go.Sort.rd uLt dk a' b' lim wb wp).d1 w0 wc R (by omega) S2.out (by omega) (by omega) (by omega);rw [show (Go.Sort.rd uLt dk a' b' lim wb wp).d1.size=d0.size from s1.trans hds,hintN_eq,show choosePivot uLt (Go.Sort.rd uLt dk a' b' lim wb wp).d1 a' b'=(Go.Sort.rd uLt dk a' b' lim wb wp).c from rfl] at hc17;have HC:=vg hc17;clear hc17;go_upto_if 50 with (go_at_call 307;refine HC.out.mono ?_;rintro e w2 ⟨rfl,q3⟩;have S3:=vg q3;clear q3)
      clear S2 HC;go_cut [11,12] (fun s11 s12 wc=>s11=I6 (Go.Sort.rd uLt dk a' b' lim wb wp).pivot∧s12=I6 (hintCode (Go.Sort.rd uLt dk a' b' lim wb wp).hint)∧Hid (SW uV w0 blk off (Go.Sort.rd uLt dk a' b' lim wb wp).d2 wc))
      case first=>
       by_cases hh:(Go.Sort.rd uLt dk a' b' lim wb wp).c.2=.decreasing
       ·have hcode:hintCode (Go.Sort.rd uLt dk a' b' lim wb wp).c.2=2:=by rw [hh];rfl
        obtain ⟨e2,epv,eht⟩:=rd_dec hh;have hc18:=revU blk off cap a' b' d0 (Go.Sort.rd uLt dk a' b' lim wb wp).d1 w0 w2 R (by omega) S3.out hab' (by omega) (by omega);rw [show (Go.Sort.rd uLt dk a' b' lim wb wp).d1.size=d0.size from s1.trans hds] at hc18;have HC:=vg hc18;have HE:=vg (qd e2 (qd epv eht));clear hc18 e2 epv eht;go_wp2_with (go_at_call 308;refine HC.out.mono ?_;rintro e w3 ⟨rfl,hw3⟩);go_meet
        case rel=>
         obtain ⟨e2,epv,eht⟩:=HE.out;refine ⟨?_,by rw [eht];rfl,vg (by rw [e2];exact hw3)⟩;rw [epv];congr 1;omega
       ·have hcode:¬ (hintCode (Go.Sort.rd uLt dk a' b' lim wb wp).c.2=2):=fun h=>hh (hintCode_two h);obtain ⟨e2,epv,eht⟩:=rd_not hh;have HE:=vg (qd e2 (qd epv eht));clear e2 epv eht;go_wp2_with fail;go_meet
        case rel=>
         obtain ⟨e2,epv,eht⟩:=HE.out;exact ⟨by rw [epv],by rw [eht],vg (by rw [e2];exact S3.out)⟩
      case rest=>
       clear S3;obtain ⟨rfl,rfl,S3⟩:=hcut;go_upto_region 15 with fail
       go_cut [12,68] (fun s12 s68 wx=>s12=I6 (hintCode (Go.Sort.rd uLt dk a' b' lim wb wp).hint)∧s68=.bool (wb&&wp&&decide ((Go.Sort.rd uLt dk a' b' lim wb wp).hint=.increasing))∧wx=wc)
       case first=>
        cases wb<;>cases wp<;>cases hh3:(Go.Sort.rd uLt dk a' b' lim _ _).hint <;>
         (have hcode3:=congrArg hintCode hh3
          simp only [hintCode] at hcode3;go_wp2_with fail;go_meet
          exact ⟨by simp [hh3,hintCode],by simp [hh3,hintCode],rfl⟩)
       case rest=>
        obtain ⟨rfl,rfl,rfl⟩:=hcut;go_upto_if 68 with fail;go_cut [] (fun wx=>(Go.Sort.rd uLt dk a' b' lim wb wp).pi.2=false∧Hid (SW uV w0 blk off (Go.Sort.rd uLt dk a' b' lim wb wp).pi.1 wx))
        case first=>
         cases h68:(wb&&wp&&decide ((Go.Sort.rd uLt dk a' b' lim wb wp).hint=.increasing))
         ·have epi:=rd_pi_no h68;have HE:=vg epi;clear epi;go_wp2_with fail;go_meet
          case rel=>exact ⟨by rw [HE.out],vg (by rw [HE.out];exact S3.out)⟩
         ·have epi:=rd_pi_yes h68;have hc19:=partialU blk off cap a' b' d0 (Go.Sort.rd uLt dk a' b' lim wb wp).d2 w0 wc R (by omega) S3.out (by omega) (by omega) (by omega);rw [← epi,show (Go.Sort.rd uLt dk a' b' lim wb wp).d2.size=d0.size from s2.trans hds] at hc19;have HC:=vg hc19;clear hc19 epi;cases hp2:(Go.Sort.rd uLt dk a' b' lim wb wp).pi.2
          ·rw [hp2] at HC;go_wp2_with (go_at_call 309;refine HC.out.mono ?_;rintro e w4 ⟨rfl,hw4⟩);go_meet;exact ⟨hp2,vg hw4⟩
          ·rw [hp2] at HC;go_wp2_with (go_at_call 309;refine HC.out.mono ?_;rintro e w4 ⟨rfl,hw4⟩)
           (try simp only [Exit.inBlock,Exit.then]);refine bodyPost_ret (results_none rfl _ _ _) rfl ?_
           refine ⟨rfl,?_⟩;rw [← A.out,pdq_done h12 hl0 hp2];exact hw4
        case rest=>
         clear S3;obtain ⟨hp2,S5⟩:=hcut;obtain ⟨G,hG⟩:∃ G:Nat→Int,∀ t,G t=(Go.Sort.rd uLt dk a' b' lim wb wp).pi.1[t]! := ⟨fun t=>(Go.Sort.rd uLt dk a' b' lim wb wp).pi.1[t]!,fun _=>rfl⟩;have HG:Hid (∀ t,G t=(Go.Sort.rd uLt dk a' b' lim wb wp).pi.1[t]!):=hG;obtain ⟨hcw,hfw⟩:=fam R S5.out (by omega) (show d0.size=d0.size by omega) G hG;clear hG;have hpv1:=hpv.1;have hpv2:=hpv.2;have hpd:(Go.Sort.rd uLt dk a' b' lim wb wp).pivot<d0.size:=by omega
         go_upto_region 17 with fail;go_cut [87] (fun s87 wx=>s87=.bool (decide (a' > 0)&&!uLt (G (a'-1)) (G (Go.Sort.rd uLt dk a' b' lim wb wp).pivot))∧Hid (SW uV w0 blk off (Go.Sort.rd uLt dk a' b' lim wb wp).pi.1 wx))
         case first=>
          rcases Nat.eq_zero_or_pos a' with ha0|ha0
          ·have hn0z:decide ((a':Int) > 0)=false:=decide_eq_false (by omega);go_big_quiet (first|(go_at_call 310;refine Calls.quiet_of_same (xd _ _ _)));go_wp2_with fail;go_meet
           case rel=>exact ⟨by simp [ha0],vg (S5.out.drewN nq)⟩
          ·have ha0z:(a':Int) > 0:=by omega
           cases hlv:uLt (G (a'-1)) (G (Go.Sort.rd uLt dk a' b' lim wb wp).pivot)
           ·go_big_quiet (first|(go_at_call 310;refine Calls.quiet_of_same (xd _ _ _)));go_wp2_with fail;go_meet
            case rel=>exact ⟨by simp [ha0,hlv],vg (S5.out.drewN nq)⟩
           ·go_big_quiet (first|(go_at_call 310;refine Calls.quiet_of_same (xd _ _ _)));go_wp2_with fail;go_meet
            case rel=>exact ⟨by simp [hlv],vg (S5.out.drewN nq)⟩
         case rest=>
          clear S5 hcw hfw;obtain ⟨rfl,S6⟩:=hcut;cases h87g:(decide (a' > 0)&&!uLt (G (a'-1)) (G (Go.Sort.rd uLt dk a' b' lim wb wp).pivot))
          ·have h87:(decide (a' > 0)&&!uLt (Go.Sort.rd uLt dk a' b' lim wb wp).pi.1[a'-1]! (Go.Sort.rd uLt dk a' b' lim wb wp).pi.1[(Go.Sort.rd uLt dk a' b' lim wb wp).pivot]!)=false:=by rw [← HG.out,← HG.out];exact h87g
           have H87:=vg h87;clear h87;obtain ⟨mid,ap,d4,hx⟩:∃ mid ap d4,partition uLt (Go.Sort.rd uLt dk a' b' lim wb wp).pi.1 a' b' (Go.Sort.rd uLt dk a' b' lim wb wp).pivot=(mid,ap,d4):=⟨_,_,_,rfl⟩;obtain ⟨r1,r2,r3,r4,r5,r6,r7⟩:=round_part uSwo (partition_holds uLt) hpv.1 hpv.2 (show b'≤(Go.Sort.rd uLt dk a' b' lim wb wp).pi.1.size by omega) B3 hx;have hc22:=partU blk off cap a' b' (Go.Sort.rd uLt dk a' b' lim wb wp).pivot d0 (Go.Sort.rd uLt dk a' b' lim wb wp).pi.1 w0 wc R (by omega) S6.out (by omega) (by omega) (by omega) (by omega);rw [hx,show (Go.Sort.rd uLt dk a' b' lim wb wp).pi.1.size=d0.size from s3.trans hds] at hc22;have HC:=vg hc22;have HX:=vg hx;clear hx hc22;go_upto_if 113 with (go_at_call 312;refine HC.out.mono ?_;rintro e w7 ⟨rfl,q7⟩;have S7:=vg q7;clear q7)
           have hs4:d4.size=d0.size:=r3.trans (s3.trans hds);by_cases h4:mid-a'<b'-mid
           ·have h4z:(mid:Int)-(a':Int)<(b':Int)-(mid:Int):=by omega
            have hih:=ih a' mid (Go.Sort.rd uLt dk a' b' lim wb wp).lim d4 w7 (by omega) (by omega) S7.out (by omega) (by omega) (by omega) (Nat.lt_of_le_of_lt (qi rd_lim_le hlim) hlimit) r4;obtain ⟨pL,sL⟩:=pdq_sorts uLt uSwo d4 a' mid (Go.Sort.rd uLt dk a' b' lim wb wp).lim true true (by omega) (by omega) r4;have HI:=vg hih;clear hih;go_wp2_with (go_at_call 270;refine HI.out.mono ?_;rintro e w8 ⟨rfl,q8⟩;have S8:=vg q8;clear q8);go_roundg (b'-(mid+1))
            case measure=>omega
            case rel=>
             refine ⟨mid+1,b',(Go.Sort.rd uLt dk a' b' lim wb wp).lim,decide (mid-a'≥(b'-a') / 8),ap,pdq uLt d4 a' mid (Go.Sort.rd uLt dk a' b' lim wb wp).lim true true,by simp,rfl,rfl,?_,rfl,by omega,by omega,qb _,by omega,qi rd_lim_le hlim,by rw [pL.1,hs4],vg (r6 _ pL sL).1,S8,vg ?_⟩
             ·exact congrArg Value.bool (eighth (by omega) (by omega))
             ·have hx:=HX.out;rw [← A.out,pdq_left h12 hl0 hp2 H87.out (by rw [hx];exact ⟨r1,r2⟩) (by rw [hx];exact h4),hx]
           ·have h4z:¬ ((mid:Int)-(a':Int)<(b':Int)-(mid:Int)):=by omega
            have hih:=ih (mid+1) b' (Go.Sort.rd uLt dk a' b' lim wb wp).lim d4 w7 (by omega) (by omega) S7.out (by omega) (by omega) (by omega) (Nat.lt_of_le_of_lt (qi rd_lim_le hlim) hlimit) r5;rw [show ((mid+1:Nat):Int)=(mid:Int)+1 by omega] at hih;obtain ⟨pL,sL⟩:=pdq_sorts uLt uSwo d4 (mid+1) b' (Go.Sort.rd uLt dk a' b' lim wb wp).lim true true (by omega) (by omega) r5;have HI:=vg hih;clear hih;go_wp2_with (go_at_call 270;refine HI.out.mono ?_;rintro e w8 ⟨rfl,q8⟩;have S8:=vg q8;clear q8);go_roundg (mid-a')
            case measure=>omega
            case rel=>
             refine ⟨a',mid,(Go.Sort.rd uLt dk a' b' lim wb wp).lim,decide (b'-mid≥(b'-a') / 8),ap,pdq uLt d4 (mid+1) b' (Go.Sort.rd uLt dk a' b' lim wb wp).lim true true,rfl,rfl,rfl,?_,rfl,by omega,by omega,qb _,by omega,qi rd_lim_le hlim,by rw [pL.1,hs4],vg (r7 _ pL sL).1,S8,vg ?_⟩
             ·exact congrArg Value.bool (eighth (by omega) (by omega))
             ·have hx:=HX.out;rw [← A.out,pdq_right h12 hl0 hp2 H87.out (by rw [hx];exact ⟨r1,r2⟩) (by rw [hx];exact h4),hx]
          ·have h87:(decide (a' > 0)&&!uLt (Go.Sort.rd uLt dk a' b' lim wb wp).pi.1[a'-1]! (Go.Sort.rd uLt dk a' b' lim wb wp).pi.1[(Go.Sort.rd uLt dk a' b' lim wb wp).pivot]!)=true:=by rw [← HG.out,← HG.out];exact h87g
           have ha0:0<a':=by simp only [qx,decide_eq_true_eq] at h87;exact h87.1
           have hl2:uLt (Go.Sort.rd uLt dk a' b' lim wb wp).pi.1[a'-1]! (Go.Sort.rd uLt dk a' b' lim wb wp).pi.1[(Go.Sort.rd uLt dk a' b' lim wb wp).pivot]! = false:=by simp only [qx,Bool.not_eq_true'] at h87;exact h87.2
           have H87:=vg (qd h87 hl2);clear h87 hl2;obtain ⟨mid,d4,hx⟩:∃ mid d4,partitionEqual uLt (Go.Sort.rd uLt dk a' b' lim wb wp).pi.1 a' b' (Go.Sort.rd uLt dk a' b' lim wb wp).pivot=(mid,d4):=⟨_,_,rfl⟩;obtain ⟨r1,r2,r3,r4,_⟩:=round_eq uSwo (partitionEqual_holds uLt) ha0 hpv.1 hpv.2 (show b'≤(Go.Sort.rd uLt dk a' b' lim wb wp).pi.1.size by omega) B3 H87.out.2 hx;have hc21:=partEqU blk off cap a' b' (Go.Sort.rd uLt dk a' b' lim wb wp).pivot d0 (Go.Sort.rd uLt dk a' b' lim wb wp).pi.1 w0 wc R (by omega) S6.out (by omega) (by omega) (by omega) (by omega);rw [hx,show (Go.Sort.rd uLt dk a' b' lim wb wp).pi.1.size=d0.size from s3.trans hds] at hc21;have HC:=vg hc21;have HX:=vg hx;clear hx hc21;go_wp2_with (go_at_call 311;refine HC.out.mono ?_;rintro e w7 ⟨rfl,hw7⟩);go_roundg (b'-mid)
           case measure=>omega
           case rel=>
            have hx:=HX.out;exact ⟨mid,b',(Go.Sort.rd uLt dk a' b' lim wb wp).lim,wb,wp,d4,rfl,rfl,rfl,rfl,rfl,r2,hb',qb _,by omega,qi rd_lim_le hlim,by rw [r3,s3,hds],vg r4,vg hw7,vg (by rw [← A.out,pdq_eq h12 hl0 hp2 H87.out.1 (by rw [hx];exact ⟨r1,r2⟩),hx])⟩

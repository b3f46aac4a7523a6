import Derived.Test.YtgccjefbedpmpaaGreatDoorYAs
import Derived.Test.YtgccjefbedpmpaaGreatDoorYByts
namespace Go.Proofs.YtgccjefbedpmpaaGreatDoor
open Go.RowKit
set_option maxRecDepth 100000
set_option maxHeartbeats 8000000
structure Sents (w:World):Prop where
 bounds:∃ a,w.cell? (Ad 4 0)=some (.iface 435 (.pointer (some a)))
 own:∃ a,w.cell? (Ad 5 0)=some (.iface 435 (.pointer (some a)))
 order:∃ a,w.cell? (Ad 9 0)=some (.iface 435 (.pointer (some a)))
 extra:∃ a,w.cell? (Ad 6 0)=some (.iface 435 (.pointer (some a)))
 count:∃ a,w.cell? (Ad 7 0)=some (.iface 435 (.pointer (some a)))
 short:∃ a,w.cell? (Ad 2 0)=some (.iface 435 (.pointer (some a)))
 more:∃ a,w.cell? (Ad 8 0)=some (.iface 435 (.pointer (some a)))
 long:∃ a,w.cell? (Ad 10 0)=some (.iface 435 (.pointer (some a)))
 check:∃ a,w.cell? (Ad 3 0)=some (.iface 435 (.pointer (some a)))
 other:∃ a,w.cell? (Ad 0 0)=some (.iface 435 (.pointer (some a)))
theorem Sents.below {w w':World} (h:Sents w) (hb:Bel w w'):Sents w':=by
 have k:∀ g,(∃ a,w.cell? (Ad g 0)=some (.iface 435 (.pointer (some a))))→∃ a,w'.cell? (Ad g 0)=some (.iface 435 (.pointer (some a))):=fun g ⟨a,e⟩=>⟨a,(hb.cell (block_lt_of_cell e)).trans e⟩;exact ⟨k _ h.bounds,k _ h.own,k _ h.order,k _ h.extra,k _ h.count,k _ h.short,k _ h.more,k _ h.long,k _ h.check,k _ h.other⟩
theorem pKey_any (cl ck:Int) (hcl:0≤cl∧cl < 4294967296) (hck:0≤ck∧ck < 4294967296) (w:World):Cs 105 #[U3 cl,U3 ck] w fun e w'=>e=.returned (U6 (cl*1048576+ck))∧w'=w:=by
 have e1:IntKind.u64.wrap (cl*1048576)=cl*1048576:=u64r _ (by omega);have e2:IntKind.u64.wrap (cl*1048576+ck)=cl*1048576+ck:=u64r _ (by omega);go_enter Tryz.func105,Tryz.ntmps105;go_wp2;go_ret;exact ⟨by simp [*],rfl⟩
theorem kz (kd cl ck st rf ch:Int) (hcl:0≤cl∧cl < 4294967296) (hck:0≤ck∧ck < 4294967296) (w:World):Cs 93 #[.agg #[I6 kd,U3 cl,U3 ck,U3 st,U6 rf,I3 ch]] w fun e w'=>e=.returned (U6 (cl*1048576+ck))∧Bel w w':=by
 go_enter Tryz.func93,Tryz.ntmps93;go_wp2_with (go_at_call 105;refine (pKey_any cl ck hcl hck _).mono ?_;rintro e w1 ⟨rfl,rfl⟩);go_ret;exact ⟨rfl,(qj _ _).alloc (qb _) _⟩
theorem pIsKey_any (k:Int) (h0:0≤k) (h1:k < 18446744073709551616) (w:World):Cs 231 #[U6 k] w fun e w'=>e=.returned (.bool (okKey k))∧w'=w:=by
 have q1:k < 1099511627776↔k / 1048576≤1048575:=by omega
 rcases jg k 1099511627776 with a1 | a1 <;> rcases jg (k / 1048576) 1 with a2 | a2 <;> rcases jg (k % 1048576) 1 with a3 | a3
 all_goals (
  go_enter Tryz.func231,Tryz.ntmps231
  go_wp2 <;> (go_ret;exact ⟨congrArg (fun b=>Ending.returned (.bool b)) (by simp [okKey];omega),rfl⟩))
theorem pIsChar_any (c:Int) (w:World):Cs 154 #[I3 c] w fun e w'=>e=.returned (.bool (okChar c))∧w'=w:=by
 by_cases a1:32≤c <;> by_cases a2:c≤1114111 <;> by_cases a3:c < 55296 <;> by_cases a4:57343 < c
 all_goals (
  go_enter Tryz.func154,Tryz.ntmps154;go_wp2;go_ret
  exact ⟨by simp [okChar,a1,a2,a3,a4],rfl⟩)
theorem from1_any (n m:Int) (w:World):Cs 89 #[U3 n,U3 m] w fun e w'=>e=.returned (.bool (decide (1≤n)&&decide (n≤m)))∧w'=w:=by
 by_cases a1:1≤n <;> by_cases a2:n≤m
 all_goals (
  go_enter Tryz.func89,Tryz.ntmps89;go_wp2;go_ret
  exact ⟨by simp [a1,a2],rfl⟩)
theorem isClient_any (n:Int) (w:World):Cs 47 #[U3 n] w fun e w'=>e=.returned (.bool (decide (1≤n)&&decide (n≤1048575)))∧w'=w:=by
 go_enter Tryz.func47,Tryz.ntmps47;go_wp2_with (go_at_call 89;refine (from1_any _ _ _).mono ?_;rintro e w1 ⟨rfl,rfl⟩);go_ret;exact ⟨rfl,rfl⟩
theorem opFault_any (kd cl ck st rf ch:Int) (hcl:0≤cl∧cl < 4294967296) (hck:0≤ck∧ck < 4294967296) (h0:0≤rf) (h1:rf < 18446744073709551616) (w:World) (hS:Sents w) :
  Cs 164 #[.agg #[I6 kd,U3 cl,U3 ck,U3 st,U6 rf,I3 ch]] w fun e w'=>∃ x,e=.returned x∧(okOp kd cl ck st rf ch=true→x=.nilIface)∧(okOp kd cl ck st rf ch=false→Err x)∧Bel w w':=by
 have hz:Bel w (w.alloc (.cells #[I6 kd,U3 cl,U3 ck,U3 st,U6 rf,I3 ch] 43)):=(qj _ _).alloc (qb _) _;have hS1:=hS.below hz;have HS:Hid (Sents w):=hS;have hkey:Hid (∀ W,Cs 93 #[.agg #[I6 kd,U3 cl,U3 ck,U3 st,U6 rf,I3 ch]] W fun e w'=>e=.returned (U6 (cl*1048576+ck))∧Bel W w'):=kz kd cl ck st rf ch hcl hck;obtain ⟨⟨aB,sB⟩,⟨aO,sO⟩,-,⟨aE,sE⟩,-,-,-,-,-,-⟩:=hS1;have H2:Hid (∀ w,Cs 47 #[U3 cl] w fun e w'=>e=.returned (.bool (decide (1≤cl)&&decide (cl≤1048575)))∧w'=w):=isClient_any cl;have H3:Hid (∀ w,Cs 89 #[U3 ck,U3 1048575] w fun e w'=>e=.returned (.bool (decide (1≤ck)&&decide (ck≤1048575)))∧w'=w):=from1_any ck 1048575;have H4:Hid (∀ w,Cs 89 #[U3 st,U3 1073741823] w fun e w'=>e=.returned (.bool (decide (1≤st)&&decide (st≤1073741823)))∧w'=w):=from1_any st 1073741823;have HK:Hid (∀ w,Cs 231 #[U6 rf] w fun e w'=>e=.returned (.bool (okKey rf))∧w'=w):=pIsKey_any rf h0 h1;have HC:Hid (∀ w,Cs 154 #[I3 ch] w fun e w'=>e=.returned (.bool (okChar ch))∧w'=w):=pIsChar_any ch
 have e:okOp kd cl ck st rf ch=((decide (1≤cl)&&decide (cl≤1048575))&&((decide (1≤ck)&&decide (ck≤1048575))&&((decide (1≤st)&&decide (st≤1073741823))&&(!decide (cl*1048576+ck=rf)&&(if kd=1 then okChar ch&&(okKey rf||decide (rf=0)) else decide (kd=2)&&okKey rf&&decide (ch=0)))))):=by
  unfold okOp;simp only [Bool.and_assoc]
 generalize okOp kd cl ck st rf ch=R at *;generalize (decide (1≤cl)&&decide (cl≤1048575))=B2 at *;generalize (decide (1≤ck)&&decide (ck≤1048575))=B3 at *;generalize (decide (1≤st)&&decide (st≤1073741823))=B4 at *;generalize okKey rf=K at *;generalize okChar ch=C at *;have HE:Hid (R=_):=e;clear e hS;by_cases k1:kd=1
 ·subst k1;cases B2
  ·skip;go_enter Tryz.func164,Tryz.ntmps164
   go_wp2_with (first
    | (go_at_call 47;refine (H2.out _).mono ?_;rintro e w1 ⟨rfl,rfl⟩)
    | (go_at_call 89;have hx:=H3;clear hx;refine (H3.out _).mono ?_;rintro e w1 ⟨rfl,rfl⟩;clear H3)
    | (go_at_call 89;refine (H4.out _).mono ?_;rintro e w1 ⟨rfl,rfl⟩)
    | (go_at_call 120;refine (ku _ _ ⟨_,_,rfl⟩ _).mono ?_;rintro e w2 ⟨⟨x,rfl,hx⟩,hb2⟩))
   go_ret;exact ⟨_,rfl,fun h=>absurd (HE.out.symm.trans h) (by simp [*]),fun _=>hx,hz.trans (hb2.mono (by simp))⟩
  ·skip;cases B3
   ·skip;go_enter Tryz.func164,Tryz.ntmps164
    go_wp2_with (first
     | (go_at_call 47;refine (H2.out _).mono ?_;rintro e w1 ⟨rfl,rfl⟩)
     | (go_at_call 89;have hx:=H3;clear hx;refine (H3.out _).mono ?_;rintro e w1 ⟨rfl,rfl⟩;clear H3)
     | (go_at_call 89;refine (H4.out _).mono ?_;rintro e w1 ⟨rfl,rfl⟩)
     | (go_at_call 120;refine (ku _ _ ⟨_,_,rfl⟩ _).mono ?_;rintro e w2 ⟨⟨x,rfl,hx⟩,hb2⟩))
    go_ret;exact ⟨_,rfl,fun h=>absurd (HE.out.symm.trans h) (by simp [*]),fun _=>hx,hz.trans (hb2.mono (by simp))⟩
   ·skip;cases B4
    ·skip;go_enter Tryz.func164,Tryz.ntmps164
     go_wp2_with (first
      | (go_at_call 47;refine (H2.out _).mono ?_;rintro e w1 ⟨rfl,rfl⟩)
      | (go_at_call 89;have hx:=H3;clear hx;refine (H3.out _).mono ?_;rintro e w1 ⟨rfl,rfl⟩;clear H3)
      | (go_at_call 89;refine (H4.out _).mono ?_;rintro e w1 ⟨rfl,rfl⟩)
      | (go_at_call 120;refine (ku _ _ ⟨_,_,rfl⟩ _).mono ?_;rintro e w2 ⟨⟨x,rfl,hx⟩,hb2⟩))
     go_ret;exact ⟨_,rfl,fun h=>absurd (HE.out.symm.trans h) (by simp [*]),fun _=>hx,hz.trans (hb2.mono (by simp))⟩
    ·skip;by_cases b1:cl*1048576+ck=rf
     ·subst b1;go_enter Tryz.func164,Tryz.ntmps164
      go_wp2_with (first
       | (go_at_call 47;refine (H2.out _).mono ?_;rintro e w1 ⟨rfl,rfl⟩)
       | (go_at_call 89;have hx:=H3;clear hx;refine (H3.out _).mono ?_;rintro e w1 ⟨rfl,rfl⟩;clear H3)
       | (go_at_call 89;refine (H4.out _).mono ?_;rintro e w1 ⟨rfl,rfl⟩)
       | (go_at_call 120;refine (ku _ _ ⟨_,_,rfl⟩ _).mono ?_;rintro e w2 ⟨⟨x,rfl,hx⟩,hb2⟩))
      clear sB sO sE;go_region_held3 (fun w'=>Bel w w'∧w'.cell? (Ad w.heap.size 0)=some (I6 1)∧w'.cell? (Ad w.heap.size 1)=some (U3 cl)∧w'.cell? (Ad w.heap.size 2)=some (U3 ck)∧w'.cell? (Ad w.heap.size 3)=some (U3 st)∧w'.cell? (Ad w.heap.size 4)=some (U6 (cl*1048576+ck))∧w'.cell? (Ad w.heap.size 5)=some (I3 ch)) (first | exact Qp (qb _) (by assumption) (by assumption) | exact Qq (by assumption) | (refine ⟨?_,?_⟩;exact hz.drew;go_keep)) ((go_at_call 93;refine (hkey.out _).mono ?_;rintro e w3 ⟨rfl,hb3⟩));obtain ⟨hz3,n0,n1,n2,n3,n4,n5⟩:=‹Bel w w3∧_›;obtain ⟨⟨bB,tB⟩,⟨bO,tO⟩,-,⟨bE,tE⟩,-,-,-,-,-,-⟩:=HS.out.below hz3;clear hb3
      go_wp2_with (first
       | (go_at_call 231;refine (HK.out _).mono ?_;rintro e w1 ⟨rfl,rfl⟩)
       | (go_at_call 154;refine (HC.out _).mono ?_;rintro e w1 ⟨rfl,rfl⟩)
       | (go_at_call 120;refine (ku _ _ ⟨_,_,rfl⟩ _).mono ?_;rintro e w2 ⟨⟨x,rfl,hx⟩,hb2⟩))
      go_ret;exact ⟨_,rfl,fun h=>absurd (HE.out.symm.trans h) (by simp [*]),fun _=>hx,hz3.trans (hb2.mono hz3.size)⟩
     ·have b1':(rf==cl*1048576+ck)=false:=by simpa using fun h:rf=cl*1048576+ck=>b1 h.symm
      cases K
      ·by_cases b2:rf=0
       ·subst b2;cases C
        ·skip;go_enter Tryz.func164,Tryz.ntmps164
         go_wp2_with (first
          | (go_at_call 47;refine (H2.out _).mono ?_;rintro e w1 ⟨rfl,rfl⟩)
          | (go_at_call 89;have hx:=H3;clear hx;refine (H3.out _).mono ?_;rintro e w1 ⟨rfl,rfl⟩;clear H3)
          | (go_at_call 89;refine (H4.out _).mono ?_;rintro e w1 ⟨rfl,rfl⟩)
          | (go_at_call 120;refine (ku _ _ ⟨_,_,rfl⟩ _).mono ?_;rintro e w2 ⟨⟨x,rfl,hx⟩,hb2⟩))
         clear sB sO sE;go_region_held3 (fun w'=>Bel w w'∧w'.cell? (Ad w.heap.size 0)=some (I6 1)∧w'.cell? (Ad w.heap.size 1)=some (U3 cl)∧w'.cell? (Ad w.heap.size 2)=some (U3 ck)∧w'.cell? (Ad w.heap.size 3)=some (U3 st)∧w'.cell? (Ad w.heap.size 4)=some (U6 0)∧w'.cell? (Ad w.heap.size 5)=some (I3 ch)) (first | exact Qp (qb _) (by assumption) (by assumption) | exact Qq (by assumption) | (refine ⟨?_,?_⟩;exact hz.drew;go_keep)) ((go_at_call 93;refine (hkey.out _).mono ?_;rintro e w3 ⟨rfl,hb3⟩));obtain ⟨hz3,n0,n1,n2,n3,n4,n5⟩:=‹Bel w w3∧_›;obtain ⟨⟨bB,tB⟩,⟨bO,tO⟩,-,⟨bE,tE⟩,-,-,-,-,-,-⟩:=HS.out.below hz3;clear hb3
         go_wp2_with (first
          | (go_at_call 231;refine (HK.out _).mono ?_;rintro e w1 ⟨rfl,rfl⟩)
          | (go_at_call 154;refine (HC.out _).mono ?_;rintro e w1 ⟨rfl,rfl⟩)
          | (go_at_call 120;refine (ku _ _ ⟨_,_,rfl⟩ _).mono ?_;rintro e w2 ⟨⟨x,rfl,hx⟩,hb2⟩))
         go_ret;exact ⟨_,rfl,fun h=>absurd (HE.out.symm.trans h) (by simp [*]),fun _=>hx,hz3.trans (hb2.mono hz3.size)⟩
        ·skip;go_enter Tryz.func164,Tryz.ntmps164
         go_wp2_with (first
          | (go_at_call 47;refine (H2.out _).mono ?_;rintro e w1 ⟨rfl,rfl⟩)
          | (go_at_call 89;have hx:=H3;clear hx;refine (H3.out _).mono ?_;rintro e w1 ⟨rfl,rfl⟩;clear H3)
          | (go_at_call 89;refine (H4.out _).mono ?_;rintro e w1 ⟨rfl,rfl⟩)
          | (go_at_call 120;refine (ku _ _ ⟨_,_,rfl⟩ _).mono ?_;rintro e w2 ⟨⟨x,rfl,hx⟩,hb2⟩))
         clear sB sO sE;go_region_held3 (fun w'=>Bel w w'∧w'.cell? (Ad w.heap.size 0)=some (I6 1)∧w'.cell? (Ad w.heap.size 1)=some (U3 cl)∧w'.cell? (Ad w.heap.size 2)=some (U3 ck)∧w'.cell? (Ad w.heap.size 3)=some (U3 st)∧w'.cell? (Ad w.heap.size 4)=some (U6 0)∧w'.cell? (Ad w.heap.size 5)=some (I3 ch)) (first | exact Qp (qb _) (by assumption) (by assumption) | exact Qq (by assumption) | (refine ⟨?_,?_⟩;exact hz.drew;go_keep)) ((go_at_call 93;refine (hkey.out _).mono ?_;rintro e w3 ⟨rfl,hb3⟩));obtain ⟨hz3,n0,n1,n2,n3,n4,n5⟩:=‹Bel w w3∧_›;obtain ⟨⟨bB,tB⟩,⟨bO,tO⟩,-,⟨bE,tE⟩,-,-,-,-,-,-⟩:=HS.out.below hz3;clear hb3
         go_wp2_with (first
          | (go_at_call 231;refine (HK.out _).mono ?_;rintro e w1 ⟨rfl,rfl⟩)
          | (go_at_call 154;refine (HC.out _).mono ?_;rintro e w1 ⟨rfl,rfl⟩)
          | (go_at_call 120;refine (ku _ _ ⟨_,_,rfl⟩ _).mono ?_;rintro e w2 ⟨⟨x,rfl,hx⟩,hb2⟩))
         go_ret;exact ⟨_,rfl,fun _=>rfl,fun h=>absurd (HE.out.symm.trans h) (by simp [*]),hz3⟩
       ·skip;go_enter Tryz.func164,Tryz.ntmps164
        go_wp2_with (first
         | (go_at_call 47;refine (H2.out _).mono ?_;rintro e w1 ⟨rfl,rfl⟩)
         | (go_at_call 89;have hx:=H3;clear hx;refine (H3.out _).mono ?_;rintro e w1 ⟨rfl,rfl⟩;clear H3)
         | (go_at_call 89;refine (H4.out _).mono ?_;rintro e w1 ⟨rfl,rfl⟩)
         | (go_at_call 120;refine (ku _ _ ⟨_,_,rfl⟩ _).mono ?_;rintro e w2 ⟨⟨x,rfl,hx⟩,hb2⟩))
        clear sB sO sE;go_region_held3 (fun w'=>Bel w w'∧w'.cell? (Ad w.heap.size 0)=some (I6 1)∧w'.cell? (Ad w.heap.size 1)=some (U3 cl)∧w'.cell? (Ad w.heap.size 2)=some (U3 ck)∧w'.cell? (Ad w.heap.size 3)=some (U3 st)∧w'.cell? (Ad w.heap.size 4)=some (U6 rf)∧w'.cell? (Ad w.heap.size 5)=some (I3 ch)) (first | exact Qp (qb _) (by assumption) (by assumption) | exact Qq (by assumption) | (refine ⟨?_,?_⟩;exact hz.drew;go_keep)) ((go_at_call 93;refine (hkey.out _).mono ?_;rintro e w3 ⟨rfl,hb3⟩));obtain ⟨hz3,n0,n1,n2,n3,n4,n5⟩:=‹Bel w w3∧_›;obtain ⟨⟨bB,tB⟩,⟨bO,tO⟩,-,⟨bE,tE⟩,-,-,-,-,-,-⟩:=HS.out.below hz3;clear hb3
        go_wp2_with (first
         | (go_at_call 231;refine (HK.out _).mono ?_;rintro e w1 ⟨rfl,rfl⟩)
         | (go_at_call 154;refine (HC.out _).mono ?_;rintro e w1 ⟨rfl,rfl⟩)
         | (go_at_call 120;refine (ku _ _ ⟨_,_,rfl⟩ _).mono ?_;rintro e w2 ⟨⟨x,rfl,hx⟩,hb2⟩))
        go_ret;exact ⟨_,rfl,fun h=>absurd (HE.out.symm.trans h) (by simp [*]),fun _=>hx,hz3.trans (hb2.mono hz3.size)⟩
      ·cases C
       ·skip;go_enter Tryz.func164,Tryz.ntmps164
        go_wp2_with (first
         | (go_at_call 47;refine (H2.out _).mono ?_;rintro e w1 ⟨rfl,rfl⟩)
         | (go_at_call 89;have hx:=H3;clear hx;refine (H3.out _).mono ?_;rintro e w1 ⟨rfl,rfl⟩;clear H3)
         | (go_at_call 89;refine (H4.out _).mono ?_;rintro e w1 ⟨rfl,rfl⟩)
         | (go_at_call 120;refine (ku _ _ ⟨_,_,rfl⟩ _).mono ?_;rintro e w2 ⟨⟨x,rfl,hx⟩,hb2⟩))
        clear sB sO sE;go_region_held3 (fun w'=>Bel w w'∧w'.cell? (Ad w.heap.size 0)=some (I6 1)∧w'.cell? (Ad w.heap.size 1)=some (U3 cl)∧w'.cell? (Ad w.heap.size 2)=some (U3 ck)∧w'.cell? (Ad w.heap.size 3)=some (U3 st)∧w'.cell? (Ad w.heap.size 4)=some (U6 rf)∧w'.cell? (Ad w.heap.size 5)=some (I3 ch)) (first | exact Qp (qb _) (by assumption) (by assumption) | exact Qq (by assumption) | (refine ⟨?_,?_⟩;exact hz.drew;go_keep)) ((go_at_call 93;refine (hkey.out _).mono ?_;rintro e w3 ⟨rfl,hb3⟩));obtain ⟨hz3,n0,n1,n2,n3,n4,n5⟩:=‹Bel w w3∧_›;obtain ⟨⟨bB,tB⟩,⟨bO,tO⟩,-,⟨bE,tE⟩,-,-,-,-,-,-⟩:=HS.out.below hz3;clear hb3
        go_wp2_with (first
         | (go_at_call 231;refine (HK.out _).mono ?_;rintro e w1 ⟨rfl,rfl⟩)
         | (go_at_call 154;refine (HC.out _).mono ?_;rintro e w1 ⟨rfl,rfl⟩)
         | (go_at_call 120;refine (ku _ _ ⟨_,_,rfl⟩ _).mono ?_;rintro e w2 ⟨⟨x,rfl,hx⟩,hb2⟩))
        go_ret;exact ⟨_,rfl,fun h=>absurd (HE.out.symm.trans h) (by simp [*]),fun _=>hx,hz3.trans (hb2.mono hz3.size)⟩
       ·skip;go_enter Tryz.func164,Tryz.ntmps164
        go_wp2_with (first
         | (go_at_call 47;refine (H2.out _).mono ?_;rintro e w1 ⟨rfl,rfl⟩)
         | (go_at_call 89;have hx:=H3;clear hx;refine (H3.out _).mono ?_;rintro e w1 ⟨rfl,rfl⟩;clear H3)
         | (go_at_call 89;refine (H4.out _).mono ?_;rintro e w1 ⟨rfl,rfl⟩)
         | (go_at_call 120;refine (ku _ _ ⟨_,_,rfl⟩ _).mono ?_;rintro e w2 ⟨⟨x,rfl,hx⟩,hb2⟩))
        clear sB sO sE;go_region_held3 (fun w'=>Bel w w'∧w'.cell? (Ad w.heap.size 0)=some (I6 1)∧w'.cell? (Ad w.heap.size 1)=some (U3 cl)∧w'.cell? (Ad w.heap.size 2)=some (U3 ck)∧w'.cell? (Ad w.heap.size 3)=some (U3 st)∧w'.cell? (Ad w.heap.size 4)=some (U6 rf)∧w'.cell? (Ad w.heap.size 5)=some (I3 ch)) (first | exact Qp (qb _) (by assumption) (by assumption) | exact Qq (by assumption) | (refine ⟨?_,?_⟩;exact hz.drew;go_keep)) ((go_at_call 93;refine (hkey.out _).mono ?_;rintro e w3 ⟨rfl,hb3⟩));obtain ⟨hz3,n0,n1,n2,n3,n4,n5⟩:=‹Bel w w3∧_›;obtain ⟨⟨bB,tB⟩,⟨bO,tO⟩,-,⟨bE,tE⟩,-,-,-,-,-,-⟩:=HS.out.below hz3;clear hb3
        go_wp2_with (first
         | (go_at_call 231;refine (HK.out _).mono ?_;rintro e w1 ⟨rfl,rfl⟩)
         | (go_at_call 154;refine (HC.out _).mono ?_;rintro e w1 ⟨rfl,rfl⟩)
         | (go_at_call 120;refine (ku _ _ ⟨_,_,rfl⟩ _).mono ?_;rintro e w2 ⟨⟨x,rfl,hx⟩,hb2⟩))
        go_ret;exact ⟨_,rfl,fun _=>rfl,fun h=>absurd (HE.out.symm.trans h) (by simp [*]),hz3⟩
 ·by_cases k2:kd=2
  ·subst k2;cases B2
   ·skip;go_enter Tryz.func164,Tryz.ntmps164
    go_wp2_with (first
     | (go_at_call 47;refine (H2.out _).mono ?_;rintro e w1 ⟨rfl,rfl⟩)
     | (go_at_call 89;have hx:=H3;clear hx;refine (H3.out _).mono ?_;rintro e w1 ⟨rfl,rfl⟩;clear H3)
     | (go_at_call 89;refine (H4.out _).mono ?_;rintro e w1 ⟨rfl,rfl⟩)
     | (go_at_call 120;refine (ku _ _ ⟨_,_,rfl⟩ _).mono ?_;rintro e w2 ⟨⟨x,rfl,hx⟩,hb2⟩))
    go_ret;exact ⟨_,rfl,fun h=>absurd (HE.out.symm.trans h) (by simp [*]),fun _=>hx,hz.trans (hb2.mono (by simp))⟩
   ·skip;cases B3
    ·skip;go_enter Tryz.func164,Tryz.ntmps164
     go_wp2_with (first
      | (go_at_call 47;refine (H2.out _).mono ?_;rintro e w1 ⟨rfl,rfl⟩)
      | (go_at_call 89;have hx:=H3;clear hx;refine (H3.out _).mono ?_;rintro e w1 ⟨rfl,rfl⟩;clear H3)
      | (go_at_call 89;refine (H4.out _).mono ?_;rintro e w1 ⟨rfl,rfl⟩)
      | (go_at_call 120;refine (ku _ _ ⟨_,_,rfl⟩ _).mono ?_;rintro e w2 ⟨⟨x,rfl,hx⟩,hb2⟩))
     go_ret;exact ⟨_,rfl,fun h=>absurd (HE.out.symm.trans h) (by simp [*]),fun _=>hx,hz.trans (hb2.mono (by simp))⟩
    ·skip;cases B4
     ·skip;go_enter Tryz.func164,Tryz.ntmps164
      go_wp2_with (first
       | (go_at_call 47;refine (H2.out _).mono ?_;rintro e w1 ⟨rfl,rfl⟩)
       | (go_at_call 89;have hx:=H3;clear hx;refine (H3.out _).mono ?_;rintro e w1 ⟨rfl,rfl⟩;clear H3)
       | (go_at_call 89;refine (H4.out _).mono ?_;rintro e w1 ⟨rfl,rfl⟩)
       | (go_at_call 120;refine (ku _ _ ⟨_,_,rfl⟩ _).mono ?_;rintro e w2 ⟨⟨x,rfl,hx⟩,hb2⟩))
      go_ret;exact ⟨_,rfl,fun h=>absurd (HE.out.symm.trans h) (by simp [*]),fun _=>hx,hz.trans (hb2.mono (by simp))⟩
     ·skip;by_cases b1:cl*1048576+ck=rf
      ·subst b1;go_enter Tryz.func164,Tryz.ntmps164
       go_wp2_with (first
        | (go_at_call 47;refine (H2.out _).mono ?_;rintro e w1 ⟨rfl,rfl⟩)
        | (go_at_call 89;have hx:=H3;clear hx;refine (H3.out _).mono ?_;rintro e w1 ⟨rfl,rfl⟩;clear H3)
        | (go_at_call 89;refine (H4.out _).mono ?_;rintro e w1 ⟨rfl,rfl⟩)
        | (go_at_call 120;refine (ku _ _ ⟨_,_,rfl⟩ _).mono ?_;rintro e w2 ⟨⟨x,rfl,hx⟩,hb2⟩))
       clear sB sO sE;go_region_held3 (fun w'=>Bel w w'∧w'.cell? (Ad w.heap.size 0)=some (I6 2)∧w'.cell? (Ad w.heap.size 1)=some (U3 cl)∧w'.cell? (Ad w.heap.size 2)=some (U3 ck)∧w'.cell? (Ad w.heap.size 3)=some (U3 st)∧w'.cell? (Ad w.heap.size 4)=some (U6 (cl*1048576+ck))∧w'.cell? (Ad w.heap.size 5)=some (I3 ch)) (first | exact Qp (qb _) (by assumption) (by assumption) | exact Qq (by assumption) | (refine ⟨?_,?_⟩;exact hz.drew;go_keep)) ((go_at_call 93;refine (hkey.out _).mono ?_;rintro e w3 ⟨rfl,hb3⟩));obtain ⟨hz3,n0,n1,n2,n3,n4,n5⟩:=‹Bel w w3∧_›;obtain ⟨⟨bB,tB⟩,⟨bO,tO⟩,-,⟨bE,tE⟩,-,-,-,-,-,-⟩:=HS.out.below hz3;clear hb3
       go_wp2_with (first
        | (go_at_call 231;refine (HK.out _).mono ?_;rintro e w1 ⟨rfl,rfl⟩)
        | (go_at_call 154;refine (HC.out _).mono ?_;rintro e w1 ⟨rfl,rfl⟩)
        | (go_at_call 120;refine (ku _ _ ⟨_,_,rfl⟩ _).mono ?_;rintro e w2 ⟨⟨x,rfl,hx⟩,hb2⟩))
       go_ret;exact ⟨_,rfl,fun h=>absurd (HE.out.symm.trans h) (by simp [*]),fun _=>hx,hz3.trans (hb2.mono hz3.size)⟩
      ·have b1':(rf==cl*1048576+ck)=false:=by simpa using fun h:rf=cl*1048576+ck=>b1 h.symm
       cases K
       ·skip;go_enter Tryz.func164,Tryz.ntmps164
        go_wp2_with (first
         | (go_at_call 47;refine (H2.out _).mono ?_;rintro e w1 ⟨rfl,rfl⟩)
         | (go_at_call 89;have hx:=H3;clear hx;refine (H3.out _).mono ?_;rintro e w1 ⟨rfl,rfl⟩;clear H3)
         | (go_at_call 89;refine (H4.out _).mono ?_;rintro e w1 ⟨rfl,rfl⟩)
         | (go_at_call 120;refine (ku _ _ ⟨_,_,rfl⟩ _).mono ?_;rintro e w2 ⟨⟨x,rfl,hx⟩,hb2⟩))
        clear sB sO sE;go_region_held3 (fun w'=>Bel w w'∧w'.cell? (Ad w.heap.size 0)=some (I6 2)∧w'.cell? (Ad w.heap.size 1)=some (U3 cl)∧w'.cell? (Ad w.heap.size 2)=some (U3 ck)∧w'.cell? (Ad w.heap.size 3)=some (U3 st)∧w'.cell? (Ad w.heap.size 4)=some (U6 rf)∧w'.cell? (Ad w.heap.size 5)=some (I3 ch)) (first | exact Qp (qb _) (by assumption) (by assumption) | exact Qq (by assumption) | (refine ⟨?_,?_⟩;exact hz.drew;go_keep)) ((go_at_call 93;refine (hkey.out _).mono ?_;rintro e w3 ⟨rfl,hb3⟩));obtain ⟨hz3,n0,n1,n2,n3,n4,n5⟩:=‹Bel w w3∧_›;obtain ⟨⟨bB,tB⟩,⟨bO,tO⟩,-,⟨bE,tE⟩,-,-,-,-,-,-⟩:=HS.out.below hz3;clear hb3
        go_wp2_with (first
         | (go_at_call 231;refine (HK.out _).mono ?_;rintro e w1 ⟨rfl,rfl⟩)
         | (go_at_call 154;refine (HC.out _).mono ?_;rintro e w1 ⟨rfl,rfl⟩)
         | (go_at_call 120;refine (ku _ _ ⟨_,_,rfl⟩ _).mono ?_;rintro e w2 ⟨⟨x,rfl,hx⟩,hb2⟩))
        go_ret;exact ⟨_,rfl,fun h=>absurd (HE.out.symm.trans h) (by simp [*]),fun _=>hx,hz3.trans (hb2.mono hz3.size)⟩
       ·by_cases b3:ch=0
        ·subst b3;go_enter Tryz.func164,Tryz.ntmps164
         go_wp2_with (first
          | (go_at_call 47;refine (H2.out _).mono ?_;rintro e w1 ⟨rfl,rfl⟩)
          | (go_at_call 89;have hx:=H3;clear hx;refine (H3.out _).mono ?_;rintro e w1 ⟨rfl,rfl⟩;clear H3)
          | (go_at_call 89;refine (H4.out _).mono ?_;rintro e w1 ⟨rfl,rfl⟩)
          | (go_at_call 120;refine (ku _ _ ⟨_,_,rfl⟩ _).mono ?_;rintro e w2 ⟨⟨x,rfl,hx⟩,hb2⟩))
         clear sB sO sE;go_region_held3 (fun w'=>Bel w w'∧w'.cell? (Ad w.heap.size 0)=some (I6 2)∧w'.cell? (Ad w.heap.size 1)=some (U3 cl)∧w'.cell? (Ad w.heap.size 2)=some (U3 ck)∧w'.cell? (Ad w.heap.size 3)=some (U3 st)∧w'.cell? (Ad w.heap.size 4)=some (U6 rf)∧w'.cell? (Ad w.heap.size 5)=some (I3 0)) (first | exact Qp (qb _) (by assumption) (by assumption) | exact Qq (by assumption) | (refine ⟨?_,?_⟩;exact hz.drew;go_keep)) ((go_at_call 93;refine (hkey.out _).mono ?_;rintro e w3 ⟨rfl,hb3⟩));obtain ⟨hz3,n0,n1,n2,n3,n4,n5⟩:=‹Bel w w3∧_›;obtain ⟨⟨bB,tB⟩,⟨bO,tO⟩,-,⟨bE,tE⟩,-,-,-,-,-,-⟩:=HS.out.below hz3;clear hb3
         go_wp2_with (first
          | (go_at_call 231;refine (HK.out _).mono ?_;rintro e w1 ⟨rfl,rfl⟩)
          | (go_at_call 154;refine (HC.out _).mono ?_;rintro e w1 ⟨rfl,rfl⟩)
          | (go_at_call 120;refine (ku _ _ ⟨_,_,rfl⟩ _).mono ?_;rintro e w2 ⟨⟨x,rfl,hx⟩,hb2⟩))
         go_ret;exact ⟨_,rfl,fun _=>rfl,fun h=>absurd (HE.out.symm.trans h) (by simp [*]),hz3⟩
        ·skip;go_enter Tryz.func164,Tryz.ntmps164
         go_wp2_with (first
          | (go_at_call 47;refine (H2.out _).mono ?_;rintro e w1 ⟨rfl,rfl⟩)
          | (go_at_call 89;have hx:=H3;clear hx;refine (H3.out _).mono ?_;rintro e w1 ⟨rfl,rfl⟩;clear H3)
          | (go_at_call 89;refine (H4.out _).mono ?_;rintro e w1 ⟨rfl,rfl⟩)
          | (go_at_call 120;refine (ku _ _ ⟨_,_,rfl⟩ _).mono ?_;rintro e w2 ⟨⟨x,rfl,hx⟩,hb2⟩))
         clear sB sO sE;go_region_held3 (fun w'=>Bel w w'∧w'.cell? (Ad w.heap.size 0)=some (I6 2)∧w'.cell? (Ad w.heap.size 1)=some (U3 cl)∧w'.cell? (Ad w.heap.size 2)=some (U3 ck)∧w'.cell? (Ad w.heap.size 3)=some (U3 st)∧w'.cell? (Ad w.heap.size 4)=some (U6 rf)∧w'.cell? (Ad w.heap.size 5)=some (I3 ch)) (first | exact Qp (qb _) (by assumption) (by assumption) | exact Qq (by assumption) | (refine ⟨?_,?_⟩;exact hz.drew;go_keep)) ((go_at_call 93;refine (hkey.out _).mono ?_;rintro e w3 ⟨rfl,hb3⟩));obtain ⟨hz3,n0,n1,n2,n3,n4,n5⟩:=‹Bel w w3∧_›;obtain ⟨⟨bB,tB⟩,⟨bO,tO⟩,-,⟨bE,tE⟩,-,-,-,-,-,-⟩:=HS.out.below hz3;clear hb3
         go_wp2_with (first
          | (go_at_call 231;refine (HK.out _).mono ?_;rintro e w1 ⟨rfl,rfl⟩)
          | (go_at_call 154;refine (HC.out _).mono ?_;rintro e w1 ⟨rfl,rfl⟩)
          | (go_at_call 120;refine (ku _ _ ⟨_,_,rfl⟩ _).mono ?_;rintro e w2 ⟨⟨x,rfl,hx⟩,hb2⟩))
         go_ret;exact ⟨_,rfl,fun h=>absurd (HE.out.symm.trans h) (by simp [*]),fun _=>hx,hz3.trans (hb2.mono hz3.size)⟩
  ·have k3:(kd != 1)=true:=by simpa using k1
   have k4:(kd != 2)=true:=by simpa using k2
   go_enter Tryz.func164,Tryz.ntmps164
   go_wp2_with (first
    | (go_at_call 47;refine (H2.out _).mono ?_;rintro e w1 ⟨rfl,rfl⟩)
    | (go_at_call 89;have hx:=H3;clear hx;refine (H3.out _).mono ?_;rintro e w1 ⟨rfl,rfl⟩;clear H3)
    | (go_at_call 89;refine (H4.out _).mono ?_;rintro e w1 ⟨rfl,rfl⟩)
    | (go_at_call 120;refine (ku _ _ ⟨_,_,rfl⟩ _).mono ?_;rintro e w2 ⟨⟨x,rfl,hx⟩,hb2⟩))
   go_ret;exact ⟨_,rfl,fun h=>absurd (HE.out.symm.trans h) (by simp [*]),fun _=>hx,hz.trans (hb2.mono (by simp))⟩

import Derived.Test.YtgccjefbedpmpaaGreatDoorYCmp
import Derived.Shelf.SlSortCmp.Kit1
import Derived.Sort.WalkA
import Derived.Sort.WalkB3
namespace Go.Proofs.YtgccjefbedpmpaaGreatDoor
open Go.Shelf Go.RowKit Go.Sort
set_option maxRecDepth 100000
set_option maxHeartbeats 8000000
variable {a b n s : Nat} {w0 : World}
@[reducible] def uV (x:Int):Value:=U6 x
def uLt (x y:Int):Bool:=decide (x<y)
theorem uOne:OneCell uV:=fun _=>rfl
theorem xd (x y:Int) (w:World):Cs 310 #[U6 x,U6 y] w fun e w'=>e=.returned (.bool (uLt x y))∧w'=w:=by
 unfold uLt;go_enter Tryz.func310,Tryz.ntmps310;go_wp2_with (go_at_call 232;refine (nan64 _ _).mono ?_;rintro e w1 ⟨rfl,rfl⟩);go_ret;exact ⟨rfl,rfl⟩
theorem insU_any (blk off cap a b:Nat) (d0 d:Array Int) (w0 w:World) (R:Row1 uV w0 blk off d0) (hs:d.size=d0.size) (S:SW uV w0 blk off d w) (hab:a≤b) (hb:b≤d.size) (hsz:d.size<4611686018427387904) :
  Cs 304 #[.slice (some (Ad blk off)) d.size cap,I6 a,I6 b] w fun e w'=>e=.returned (.tuple #[])∧SW uV w0 blk off (Sort.insertionSort uLt d a b) w':=by
 go_enter Tryz.func304,Tryz.ntmps304;have S0:Hid (SW uV w0 blk off d w):=S;clear S;go_wp2;go_loopw [6] (fun vi wr=>∃ (i:Nat) (dk:Array Int),vi=I6 i∧a<i∧i≤b+1∧dk.size=d.size∧Hid (SW uV w0 blk off dk wr)∧Hid (insOuter uLt a b i dk=insOuter uLt a b (a+1) d)) (fun vi _=>b+1-(intOf vi).toNat)
 case atStart=>exact ⟨a+1,d,by go_num,by omega,by omega,rfl,S0,rfl⟩
 case round=>
  clear S0;obtain ⟨i,dk,rfl,hai,hib,hsk,S1,HO⟩:=hrel;go_wp2
  ·have hlt:i<b:=by assumption
   go_loopw [7] (fun vj wr2=>∃ (j:Nat) (dj:Array Int),vj=I6 j∧a≤j∧j≤i∧dj.size=d.size∧Hid (SW uV w0 blk off dj wr2)∧Hid (insInner uLt a j dj=insInner uLt a i dk)) (fun vj _=>(intOf vj).toNat)
   case atStart=>exact ⟨i,dk,rfl,by omega,qb _,hsk,S1,rfl⟩
   case round=>
    clear S1;obtain ⟨j,dj,rfl,haj,hji,hsj,SJ,HI⟩:=hrel;obtain ⟨G,hG⟩:∃ G:Nat→Int,∀ t,G t=dj[t]! := ⟨fun t=>dj[t]!,fun _=>rfl⟩;have hcw:∀ t,t<d.size→wr.cell? ⟨blk,off+t,none⟩=some (U6 (G t)):=fun t ht=>by rw [hG];exact SJ.out.c1 R (by omega) t (by omega)
    have hfw:∀ t,t<d.size→wr.frozen? ⟨blk,off+t,none⟩=false:=fun t ht=>SJ.out.f1 R (by omega) t (by omega);have HG:Hid (∀ t,G t=dj[t]!):=hG
    have OUT:Hid ((j≤a∨uLt dj[j]! dj[j-1]! = false)→insOuter uLt a b (i+1) dj=insOuter uLt a b (a+1) d):=fun hs=>by
     rw [← HO.out,insOuter_go _ _ _ _ _ hlt,← HI.out,insInner_stop _ _ _ _ hs]
    clear hG;go_wp2;by_cases hja:a<j
    ·go_quiet (first|(go_at_call 310;refine Calls.quiet_of_same (xd _ _ _)));go_wp2
     ·have hl:uLt (G j) (G (j-1))=true:=by assumption
      go_region
      all_goals go_wp2
      go_roundw
      case rel=>
       refine ⟨j-1,swp dj j (j-1),by congr 1;omega,by omega,by omega,by rw [size_swp];exact hsj,?_,?_⟩
       ·rw [HG.out,HG.out];exact (SJ.out.drewN (nq+1)).swap R.hblk j (j-1) (by omega) (by omega)
       ·show insInner uLt a (j-1) (swp dj j (j-1))=insInner uLt a i dk;rw [← HI.out,insInner_go uLt a j dj hja (by rw [← HG.out,← HG.out];exact hl)]
      case measure=>simp [intOf];omega
     ·have hl:uLt (G j) (G (j-1))=false:=by assumption
      go_roundw
      case rel=>exact ⟨i+1,dj,by go_num,by omega,by omega,hsj,SJ.out.drewN _,OUT.out (Or.inr (by rw [← HG.out,← HG.out];exact hl))⟩
      case measure=>simp [intOf];omega
    ·go_quiet (first|(go_at_call 310;refine Calls.quiet_of_same (xd _ _ _)));go_wp2;go_roundw
     case rel=>exact ⟨i+1,dj,by go_num,by omega,by omega,hsj,SJ.out.drewN _,OUT.out (Or.inl (by omega))⟩
     case measure=>simp [intOf];omega
  ·have hge:¬ i<b:=by assumption
   go_end0;refine ⟨rfl,?_⟩;unfold Sort.insertionSort;rw [← HO.out,insOuter_stop _ _ _ _ _ hge];exact S1.out
theorem fam {W:World} {blk off:Nat} {d0 dk:Array Int} (R:Row1 uV w0 blk off d0) (h:SW uV w0 blk off dk W) (hs:dk.size=d0.size) (hn:n=d0.size) (G:Nat→Int) (hG:∀ t,G t=dk[t]!) :
  (∀ t,t<n→W.cell? ⟨blk,off+t,none⟩=some (U6 (G t)))∧(∀ t,t<n→W.frozen? ⟨blk,off+t,none⟩=false):=
 ⟨fun t ht=>by rw [hG];exact h.c1 R hs t (by omega),fun t ht=>h.f1 R hs t (by omega)⟩
theorem siftU_any (blk off cap lo hi first:Nat) (d0 d:Array Int) (w0 w:World) (R:Row1 uV w0 blk off d0) (hs:d.size=d0.size) (S:SW uV w0 blk off d w) (hlo:lo≤hi) (hb:first+hi≤d.size) (hsz:d.size<4611686018427387904) :
  Cs 326 #[.slice (some (Ad blk off)) d.size cap,I6 lo,I6 hi,I6 first] w fun e w'=>e=.returned (.tuple #[])∧SW uV w0 blk off (siftDown uLt hi first lo d) w':=by
 have HS:Hid (d.size=d0.size):=hs;have S0:Hid (SW uV w0 blk off d w):=S;clear S hs;go_enter Tryz.func326,Tryz.ntmps326;go_wp2;go_loopw [8] (fun vi wr=>∃ (r:Nat) (dk:Array Int),vi=I6 r∧r≤hi∧dk.size=d.size∧Hid (SW uV w0 blk off dk wr)∧Hid (siftDown uLt hi first r dk=siftDown uLt hi first lo d)) (fun vi _=>hi-(intOf vi).toNat)
 case atStart=>exact ⟨lo,d,rfl,hlo,rfl,S0,rfl⟩
 case round=>
  clear S0;obtain ⟨r,dk,rfl,hr,hsk,S1,HO⟩:=hrel;obtain ⟨G,hG⟩:∃ G:Nat→Int,∀ t,G t=dk[t]! := ⟨fun t=>dk[t]!,fun _=>rfl⟩;obtain ⟨hcw,hfw⟩:=fam R S1.out (hsk.trans HS.out) HS.out G hG;have HG:Hid (∀ t,G t=dk[t]!):=hG;clear hG;by_cases h0:2*r+1<hi
  ·have e0:¬ ((hi:Int)≤2*(r:Int)+1):=by omega
   by_cases h1:2*r+2<hi
   ·have e1:2*(r:Int)+1+1<(hi:Int):=by omega
    go_wp2_with fail;go_big_quiet (first|(go_at_call 310;refine Calls.quiet_of_same (xd _ _ _)))
    revert nq;intro n1
    have S2:Hid (SW uV w0 blk off dk (wr.drewN n1)):=S1.out.drewN n1;clear S1 hcw hfw;generalize wr.drewN n1=wr2 at S2 ⊢;obtain ⟨hcw,hfw⟩:=fam R S2.out (hsk.trans HS.out) HS.out G HG.out;go_wp2_with fail
    ·have hL:uLt (G (first+2*r+1)) (G (first+2*r+2))=true:=by assumption
     have HL:Hid (uLt dk[first+(2*r+1)]! dk[first+(2*r+2)]! = true):=(by rw [← HG.out,← HG.out,← zu,← zu];exact hL:uLt dk[first+(2*r+1)]! dk[first+(2*r+2)]! = true);clear hL;go_big_quiet (first|(go_at_call 310;refine Calls.quiet_of_same (xd _ _ _)))
     revert nq;intro n9
     have S9:Hid (SW uV w0 blk off dk (wr2.drewN n9)):=S2.out.drewN n9;clear S2 hcw hfw;generalize wr2.drewN n9=wr9 at S9 ⊢;obtain ⟨hcw,hfw⟩:=fam R S9.out (hsk.trans HS.out) HS.out G HG.out;go_wp2_with fail
     ·have hT:(!uLt (G (first+r)) (G (first+2*r+2)))=true:=by assumption
      have hT':uLt dk[first+r]! dk[first+(2*r+2)]! = false:=by rw [← HG.out,← HG.out,← zu];simpa using hT
      (try simp only [Exit.inBlock,Exit.then]);refine bodyPost_ret (results_none rfl _ _ _) rfl ?_
      refine ⟨rfl,?_⟩;rw [← HO.out,sd_right_stop uLt dk h1 HL.out hT'];exact S9.out
     ·have hT:(!uLt (G (first+r)) (G (first+2*r+2)))=false:=by assumption
      have hT':uLt dk[first+r]! dk[first+(2*r+2)]! = true:=by rw [← HG.out,← HG.out,← zu];simpa using hT
      go_region
      all_goals go_wp2
      go_roundw
      case rel=>
       refine ⟨2*r+2,swp dk (first+r) (first+(2*r+2)),by congr 1,by omega,by rw [size_swp];exact hsk,?_,?_⟩
       ·have q:=(S9.out.drewN 1).swap R.hblk (first+r) (first+(2*r+2)) (by omega) (by omega);simp only [← HG.out,← zu] at q ⊢;exact q
       ·show siftDown uLt hi first (2*r+2) (swp dk (first+r) (first+(2*r+2)))=siftDown uLt hi first lo d
        rw [← HO.out,sd_right_go uLt dk h1 HL.out hT']
      case measure=>simp [intOf];omega
    ·have hL:uLt (G (first+2*r+1)) (G (first+2*r+2))=false:=by assumption
     have HL:Hid (2*r+2<hi→uLt dk[first+(2*r+1)]! dk[first+(2*r+2)]! = false):=fun _=>(by rw [← HG.out,← HG.out,← zu,← zu];exact hL:uLt dk[first+(2*r+1)]! dk[first+(2*r+2)]! = false);clear hL;go_big_quiet (first|(go_at_call 310;refine Calls.quiet_of_same (xd _ _ _)))
     revert nq;intro n9
     have S9:Hid (SW uV w0 blk off dk (wr2.drewN n9)):=S2.out.drewN n9;clear S2 hcw hfw;generalize wr2.drewN n9=wr9 at S9 ⊢;obtain ⟨hcw,hfw⟩:=fam R S9.out (hsk.trans HS.out) HS.out G HG.out;go_wp2_with fail
     ·have hT:(!uLt (G (first+r)) (G (first+2*r+1)))=true:=by assumption
      have hT':uLt dk[first+r]! dk[first+(2*r+1)]! = false:=by rw [← HG.out,← HG.out,← zu];simpa using hT
      (try simp only [Exit.inBlock,Exit.then]);refine bodyPost_ret (results_none rfl _ _ _) rfl ?_
      refine ⟨rfl,?_⟩;rw [← HO.out,sd_left_stop uLt dk h0 HL.out hT'];exact S9.out
     ·have hT:(!uLt (G (first+r)) (G (first+2*r+1)))=false:=by assumption
      have hT':uLt dk[first+r]! dk[first+(2*r+1)]! = true:=by rw [← HG.out,← HG.out,← zu];simpa using hT
      go_region
      all_goals go_wp2
      go_roundw
      case rel=>
       refine ⟨2*r+1,swp dk (first+r) (first+(2*r+1)),by congr 1,by omega,by rw [size_swp];exact hsk,?_,?_⟩
       ·have q:=(S9.out.drewN 1).swap R.hblk (first+r) (first+(2*r+1)) (by omega) (by omega);simp only [← HG.out,← zu] at q ⊢;exact q
       ·show siftDown uLt hi first (2*r+1) (swp dk (first+r) (first+(2*r+1)))=siftDown uLt hi first lo d
        rw [← HO.out,sd_left_go uLt dk h0 HL.out hT']
      case measure=>simp [intOf];omega
   ·have e1:¬ (2*(r:Int)+1+1<(hi:Int)):=by omega
    have e2:decide (2*(r:Int)+1+1<(hi:Int))=false:=decide_eq_false e1;have HL:Hid (2*r+2<hi→uLt dk[first+(2*r+1)]! dk[first+(2*r+2)]! = false):=fun h=>absurd h h1;go_wp2_with fail;go_big_quiet (first|(go_at_call 310;refine Calls.quiet_of_same (xd _ _ _)))
    revert nq;intro n1
    have S2:Hid (SW uV w0 blk off dk (wr.drewN n1)):=S1.out.drewN n1;clear S1 hcw hfw;generalize wr.drewN n1=wr2 at S2 ⊢;obtain ⟨hcw,hfw⟩:=fam R S2.out (hsk.trans HS.out) HS.out G HG.out;go_wp2_with fail;go_big_quiet (first|(go_at_call 310;refine Calls.quiet_of_same (xd _ _ _)))
    revert nq;intro n9
    have S9:Hid (SW uV w0 blk off dk (wr2.drewN n9)):=S2.out.drewN n9;clear S2 hcw hfw;generalize wr2.drewN n9=wr9 at S9 ⊢;obtain ⟨hcw,hfw⟩:=fam R S9.out (hsk.trans HS.out) HS.out G HG.out;go_wp2_with fail
    ·have hT:(!uLt (G (first+r)) (G (first+2*r+1)))=true:=by assumption
     have hT':uLt dk[first+r]! dk[first+(2*r+1)]! = false:=by rw [← HG.out,← HG.out,← zu];simpa using hT
     (try simp only [Exit.inBlock,Exit.then]);refine bodyPost_ret (results_none rfl _ _ _) rfl ?_
     refine ⟨rfl,?_⟩;rw [← HO.out,sd_left_stop uLt dk h0 HL.out hT'];exact S9.out
    ·have hT:(!uLt (G (first+r)) (G (first+2*r+1)))=false:=by assumption
     have hT':uLt dk[first+r]! dk[first+(2*r+1)]! = true:=by rw [← HG.out,← HG.out,← zu];simpa using hT
     go_region
     all_goals go_wp2
     go_roundw
     case rel=>
      refine ⟨2*r+1,swp dk (first+r) (first+(2*r+1)),by congr 1,by omega,by rw [size_swp];exact hsk,?_,?_⟩
      ·have q:=(S9.out.drewN 1).swap R.hblk (first+r) (first+(2*r+1)) (by omega) (by omega);simp only [← HG.out,← zu] at q ⊢;exact q
      ·show siftDown uLt hi first (2*r+1) (swp dk (first+r) (first+(2*r+1)))=siftDown uLt hi first lo d
       rw [← HO.out,sd_left_go uLt dk h0 HL.out hT']
     case measure=>simp [intOf];omega
  ·have e0:(hi:Int)≤2*(r:Int)+1:=by omega
   go_wp2;go_end0;refine ⟨rfl,?_⟩;rw [← HO.out,sd_end uLt dk (by omega)];exact S1.out
theorem heapU_any (blk off cap a b:Nat) (d0 d:Array Int) (w0 w:World) (R:Row1 uV w0 blk off d0) (hs:d.size=d0.size) (S:SW uV w0 blk off d w) (hab:a≤b) (hb:b≤d.size) (hsz:d.size<4611686018427387904) :
  Cs 305 #[.slice (some (Ad blk off)) d.size cap,I6 a,I6 b] w fun e w'=>e=.returned (.tuple #[])∧SW uV w0 blk off (heapSort uLt d a b) w':=by
 have half:=half_start hab;have HS:Hid (d.size=d0.size):=hs;have S0:Hid (SW uV w0 blk off d w):=S;clear S hs;obtain ⟨L,hL⟩:∃ L,L=b-a:=⟨_,rfl⟩;have hLz:(b:Int)-(a:Int)=(L:Int):=by omega
 have hbL:a+L≤d.size:=by omega
 rw [hLz,← hL] at half;have HL:Hid (L=b-a):=hL;clear hL;go_enter Tryz.func305,Tryz.ntmps305;go_wp2;go_loopw [9] (fun vi wr=>∃ (k:Nat) (dk:Array Int),vi=I6 ((k:Int)-1)∧k≤(L-1) / 2+1∧dk.size=d.size∧Hid (SW uV w0 blk off dk wr)∧Hid (heapBuild uLt L a k dk=heapBuild uLt L a ((L-1) / 2+1) d)) (fun vi _=>(intOf vi+1).toNat)
 case atStart=>
  exact ⟨(L-1) / 2+1,d,by congr 1;omega,qb _,rfl,S0,rfl⟩
 case round=>
  clear S0;obtain ⟨k,dk,rfl,hk,hsk,S1,HO⟩:=hrel
  cases k with
  | zero=>
   have hkz:((0:Nat):Int)-1=-1:=by omega
   simp only [hkz];have HO2:Hid (heapBuild uLt L a ((L-1) / 2+1) d=dk):=HO.out.symm;clear HO half;go_wp2;go_loopw [10] (fun vi wr=>∃ (k:Nat) (dj:Array Int),vi=I6 ((k:Int)-1)∧k≤L∧dj.size=d.size∧Hid (SW uV w0 blk off dj wr)∧Hid (heapPop uLt a k dj=heapPop uLt a L dk)) (fun vi _=>(intOf vi+1).toNat)
   case atStart=>exact ⟨L,dk,rfl,qb _,hsk,S1,rfl⟩
   case round=>
    clear S1;obtain ⟨k,dj,rfl,hk,hsj,S4,HO⟩:=hrel
    cases k with
    | zero=>
     go_wp2;go_end0;refine ⟨rfl,?_⟩;unfold heapSort;rw [← HL.out,HO2.out,← HO.out];exact S4.out
    | succ k=>
     have hkz:((k+1:Nat):Int)-1=(k:Int):=by omega
     simp only [hkz];obtain ⟨G,hG⟩:∃ G:Nat→Int,∀ t,G t=dj[t]! := ⟨fun t=>dj[t]!,fun _=>rfl⟩;obtain ⟨hcw,hfw⟩:=fam R S4.out (hsj.trans HS.out) HS.out G hG;have HG:Hid (∀ t,G t=dj[t]!):=hG;clear hG;obtain ⟨u,hu⟩:=S4.out.c2 R (hsj.trans HS.out) a (a+k) (by omega) (by omega) (U6 (G (a+k)));have hu2:((wr.setCell ⟨blk,off+a,none⟩ (U6 (G (a+k)))).drew).cell? ⟨blk,off+(a+k),none⟩=some u:=hu;go_wp2_with fail;go_region
     have S5:Hid (SW uV w0 blk off (swp dj a (a+k)) ((wr.setCell ⟨blk,off+a,none⟩ (U6 (G (a+k)))).setCell ⟨blk,off+(a+k),none⟩ (U6 (G a))).drew):=by
      have q:=S4.out.swapped R a (a+k) (by omega) (by omega);rw [HG.out,HG.out];exact q
     clear hu hu2 hcw hfw;generalize World.drew _=w5 at S5 ⊢;have hs5:(swp dj a (a+k)).size=d.size:=by rw [size_swp];exact hsj
     have c:=siftU_any blk off cap 0 k a d0 (swp dj a (a+k)) w0 w5 R (hs5.trans HS.out) S5.out (by omega) (by omega) (by omega);rw [hs5] at c;go_wp2_with (go_at_call 326;refine c.mono ?_;rintro e w1 ⟨rfl,S6⟩;clear c;have S7:Hid (SW uV w0 blk off (siftDown uLt k a 0 (swp dj a (a+k))) w1):=S6;clear S6);go_roundw
     case rel=>
      refine ⟨k,siftDown uLt k a 0 (swp dj a (a+k)),rfl,by omega,by rw [size_siftDown uLt k a _ 0 _ (qb _)];exact hs5,S7,?_⟩;show heapPop uLt a k (siftDown uLt k a 0 (swp dj a (a+k)))=_;rw [← HO.out,heapPop]
     case measure=>simp [intOf]
  | succ k=>
   have hkz:((k+1:Nat):Int)-1=(k:Int):=by omega
   simp only [hkz];have c:=siftU_any blk off cap k L a d0 dk w0 wr R (hsk.trans HS.out) S1.out (by omega) (by omega) (by omega);rw [hsk] at c;go_wp2_with (go_at_call 326;refine c.mono ?_;rintro e w1 ⟨rfl,S2⟩;clear c;have S3:Hid (SW uV w0 blk off (siftDown uLt L a k dk) w1):=S2;clear S2);go_roundw
   case rel=>
    refine ⟨k,siftDown uLt L a k dk,rfl,by omega,by rw [size_siftDown uLt L a _ k dk (qb _)];exact hsk,S3,?_⟩;rw [← HO.out,heapBuild];rfl
   case measure=>simp [intOf]
theorem hid {p:Prop} (h:p):Hid p:=h
theorem cnt_drewN {W:World} {blk off c:Nat} {dk:Array Int} (h:Cnt1 uV w0 blk off dk c s W) (n:Nat):Cnt1 uV w0 blk off dk c s (W.drewN n):=by
 have:=h.grown n #[];rwa [grow_empty] at this
theorem order2U (blk off cap a b c s:Nat) (d0 d:Array Int) (w0 w:World) (R:Row1 uV w0 blk off d0) (hs:d.size=d0.size) (C:Cnt1 uV w0 blk off d c s w) (ha:a<d.size) (hb:b<d.size) (_hsz:d.size<4611686018427387904) (hc:s<1000) :
  Cs 334 #[.slice (some (Ad blk off)) d.size cap,I6 a,I6 b,(pt c 0)] w fun e w'=>e=.returned (.tuple #[I6 (order2 uLt d a b s).1,I6 (order2 uLt d a b s).2.1])∧Cnt1 uV w0 blk off d c (order2 uLt d a b s).2.2 w':=by
 have HS:Hid (d.size=d0.size):=hs;have C0:Hid (Cnt1 uV w0 blk off d c s w):=C;clear C hs;obtain ⟨G,hG⟩:∃ G:Nat→Int,∀ t,G t=d[t]! := ⟨fun t=>d[t]!,fun _=>rfl⟩;obtain ⟨hcw,hfw⟩:=fam R C0.out.1 HS.out HS.out G hG;have HG:Hid (∀ t,G t=d[t]!):=hG;have ht:uLt (G b) (G a)=true→order2 uLt d a b s=(b,a,s+1):=fun h=>by unfold order2;rw [← hG,← hG,if_pos h]
 have hf:uLt (G b) (G a)=false→order2 uLt d a b s=(a,b,s):=fun h=>by unfold order2;rw [← hG,← hG,if_neg (by rw [h];decide)]
 generalize order2 uLt d a b s=r at ht hf ⊢;have HT:Hid (uLt (G b) (G a)=true→r=(b,a,s+1)):=ht;have HF:Hid (uLt (G b) (G a)=false→r=(a,b,s)):=hf;clear hG ht hf;go_enter Tryz.func334,Tryz.ntmps334;go_wp2_with fail;go_big_quiet (first|(go_at_call 310;refine Calls.quiet_of_same (xd _ _ _)))
 revert nq;intro n1
 have C1:Hid (Cnt1 uV w0 blk off d c s (w.drewN n1)):=cnt_drewN C0.out n1;clear C0 hcw hfw;generalize w.drewN n1=w1 at C1 ⊢;have k1:w1.cell? (Ad c 0)=some (I6 s):=C1.out.2.1;have k2:w1.frozen? (Ad c 0)=false:=C1.out.2.2.1;go_wp2
 all_goals (try go_region)
 all_goals go_wp2
 ·have hl:uLt (G b) (G a)=true:=by assumption
  obtain rfl:=(HT.out hl);go_ret2;refine ⟨rfl,?_⟩;have:=C1.out.bump (s+1);simpa using this
 ·have hl:uLt (G b) (G a)=false:=by assumption
  obtain rfl:=(HF.out hl);go_ret2;exact ⟨rfl,C1.out⟩
theorem order2_b (d:Array Int) (ha:a<n) (hb:b<n):(order2 uLt d a b s).1<n∧(order2 uLt d a b s).2.1<n∧(order2 uLt d a b s).2.2≤s+1:=by
 unfold order2;split
 ·exact ⟨hb,ha,qb _⟩
 ·exact ⟨ha,hb,zc _⟩
theorem medianU (blk off cap a b x c s:Nat) (d0 d:Array Int) (w0 w:World) (R:Row1 uV w0 blk off d0) (hs:d.size=d0.size) (C:Cnt1 uV w0 blk off d c s w) (ha:a<d.size) (hb:b<d.size) (hx:x<d.size) (hsz:d.size<4611686018427387904) (hc:s<900) :
  Cs 328 #[.slice (some (Ad blk off)) d.size cap,I6 a,I6 b,I6 x,(pt c 0)] w fun e w'=>e=.returned (I6 (median uLt d a b x s).1)∧Cnt1 uV w0 blk off d c (median uLt d a b x s).2 w':=by
 have e1:=order2U blk off cap a b c s d0 d w0 w R hs C ha hb hsz (by omega);have b1:=order2_b d (s:=s) ha hb;have hm:(median uLt d a b x s=((order2 uLt d (order2 uLt d a b s).1 (order2 uLt d (order2 uLt d a b s).2.1 x (order2 uLt d a b s).2.2).1 (order2 uLt d (order2 uLt d a b s).2.1 x (order2 uLt d a b s).2.2).2.2).2.1,(order2 uLt d (order2 uLt d a b s).1 (order2 uLt d (order2 uLt d a b s).2.1 x (order2 uLt d a b s).2.2).1 (order2 uLt d (order2 uLt d a b s).2.1 x (order2 uLt d a b s).2.2).2.2).2.2)):=rfl;rw [hm];clear hm C;generalize order2 uLt d a b s=r1 at *;obtain ⟨p1,q1,s1⟩:=r1;dsimp only at *;have b2:=order2_b d (s:=s1) b1.2.1 hx;have e2:=fun w1 (C1:Cnt1 uV w0 blk off d c s1 w1)=>order2U blk off cap q1 x c s1 d0 d w0 w1 R hs C1 b1.2.1 hx hsz (by omega);generalize order2 uLt d q1 x s1=r2 at *;obtain ⟨p2,q2,s2⟩:=r2;dsimp only at *;have e3:=fun w1 (C1:Cnt1 uV w0 blk off d c s2 w1)=>order2U blk off cap p1 p2 c s2 d0 d w0 w1 R hs C1 b1.1 b2.1 hsz (by omega);generalize order2 uLt d p1 p2 s2=r3 at *;obtain ⟨p3,q3,s3⟩:=r3;dsimp only at *;have E1:=hid e1;have E2:=hid e2;have E3:=hid e3;clear e1 e2 e3 hs b1 b2 ha hb hx hc;go_enter Tryz.func328,Tryz.ntmps328
 go_wp2_with (first
  | (go_at_call 334;have hq:=C2;clear hq;refine (E3.out _ C2.out).mono ?_;rintro e w3 ⟨rfl,c3⟩;have C3:Hid (Cnt1 uV w0 blk off d c s3 w3):=c3;clear c3)
  | (go_at_call 334;have hq:=C1;clear hq;refine (E2.out _ C1.out).mono ?_;rintro e w2 ⟨rfl,c2⟩;have C2:Hid (Cnt1 uV w0 blk off d c s2 w2):=c2;clear c2)
  | (go_at_call 334;refine E1.out.mono ?_;rintro e w1 ⟨rfl,c1⟩;have C1:Hid (Cnt1 uV w0 blk off d c s1 w1):=c1;clear c1))
 go_ret;exact ⟨rfl,C3.out⟩
theorem medAdjU (blk off cap a c s:Nat) (d0 d:Array Int) (w0 w:World) (R:Row1 uV w0 blk off d0) (hs:d.size=d0.size) (C:Cnt1 uV w0 blk off d c s w) (ha:1≤a) (hb:a+1<d.size) (hsz:d.size<4611686018427387904) (hc:s<900) :
  Cs 327 #[.slice (some (Ad blk off)) d.size cap,I6 a,(pt c 0)] w fun e w'=>e=.returned (I6 (medianAdjacent uLt d a s).1)∧Cnt1 uV w0 blk off d c (medianAdjacent uLt d a s).2 w':=by
 have e1:=medianU blk off cap (a-1) a (a+1) c s d0 d w0 w R hs C (by omega) (by omega) hb hsz hc;rw [show ((a-1:Nat):Int)=(a:Int)-1 by omega,show ((a+1:Nat):Int)=(a:Int)+1 by omega] at e1;have E1:=hid e1;unfold medianAdjacent;clear e1 hs C;generalize median uLt d (a-1) a (a+1) s=r at *;go_enter Tryz.func327,Tryz.ntmps327;go_wp2_with (go_at_call 328;refine E1.out.mono ?_;rintro e w1 ⟨rfl,c1⟩;have C1:Hid (Cnt1 uV w0 blk off d c r.2 w1):=c1;clear c1);go_ret;exact ⟨rfl,C1.out⟩
def hintN:Hint→Int
 | .unknown=>0
 | .increasing=>1
 | .decreasing=>2
theorem median_b (d:Array Int) {x:Nat} (ha:a<n) (hb:b<n) (hx:x<n):(median uLt d a b x s).1<n∧(median uLt d a b x s).2≤s+3:=by
 have b1:=order2_b d (s:=s) ha hb;have b2:=order2_b d (s:=(order2 uLt d a b s).2.2) b1.2.1 hx;have b3:=order2_b d (s:=(order2 uLt d (order2 uLt d a b s).2.1 x (order2 uLt d a b s).2.2).2.2) b1.1 b2.1;exact ⟨b3.2.1,by show (order2 uLt d _ _ _).2.2≤_;omega⟩
theorem pivotU (blk off cap a b:Nat) (d0 d:Array Int) (w0 w:World) (R:Row1 uV w0 blk off d0) (hs:d.size=d0.size) (S:SW uV w0 blk off d w) (hab:a<b) (hb:b≤d.size) (hsz:d.size<4611686018427387904) :
  Cs 307 #[.slice (some (Ad blk off)) d.size cap,I6 a,I6 b] w fun e w'=>e=.returned (.tuple #[I6 (choosePivot uLt d a b).1,I6 (hintN (choosePivot uLt d a b).2)])∧SW uV w0 blk off d w':=by
 have C0:Hid (Cnt1 uV w0 blk off d w.heap.size 0 (w.alloc (.cells #[I6 0] 3))):=Cnt1.start S _;clear S;obtain ⟨L,hL⟩:∃ L,L=b-a:=⟨_,rfl⟩;have hLz:(b:Int)-(a:Int)=(L:Int):=by omega
 obtain ⟨i,hi⟩:∃ i,i=a+L / 4*1:=⟨_,rfl⟩;obtain ⟨j,hj⟩:∃ j,j=a+L / 4*2:=⟨_,rfl⟩;obtain ⟨k,hk⟩:∃ k,k=a+L / 4*3:=⟨_,rfl⟩;have hi1:(a:Int)+(L:Int) / 4=(i:Int):=by omega
 have hj1:(a:Int)+(L:Int) / 4*2=(j:Int):=by omega
 have hk1:(a:Int)+(L:Int) / 4*3=(k:Int):=by omega
 have hkd:k<d.size:=by omega
 have hjd:j<d.size:=by omega
 have hid':i<d.size:=by omega
 have hLb:L<4611686018427387904:=by omega
 have hP:choosePivot uLt d a b=(let r:Nat×Nat:=if L≥8 then (if L≥50 then median uLt d (medianAdjacent uLt d i 0).1 (medianAdjacent uLt d j (medianAdjacent uLt d i 0).2).1 (medianAdjacent uLt d k (medianAdjacent uLt d j (medianAdjacent uLt d i 0).2).2).1 (medianAdjacent uLt d k (medianAdjacent uLt d j (medianAdjacent uLt d i 0).2).2).2 else median uLt d i j k 0) else (j,0);(r.1,if r.2=0 then .increasing else if r.2=12 then .decreasing else .unknown)):=by rw [hi,hj,hk,hL];rfl
 generalize choosePivot uLt d a b=p at hP ⊢;by_cases h8:L≥8
 ·rw [if_pos h8] at hP;have h8z:(8:Int)≤(L:Int):=by omega
  by_cases h50:L≥50
  ·rw [if_pos h50] at hP;have h50z:(50:Int)≤(L:Int):=by omega
   have m1:=median_b d (a:=i-1) (b:=i) (x:=i+1) (n:=d.size) (s:=0) (by omega) (by omega) (by omega);have e1:=fun W C=>medAdjU blk off cap i w.heap.size 0 d0 d w0 W R hs C (by omega) (by omega) hsz (by omega)
   change (medianAdjacent uLt d i 0).1 < _∧(medianAdjacent uLt d i 0).2≤_ at m1
   generalize medianAdjacent uLt d i 0=r1 at *;obtain ⟨p1,s1⟩:=r1;dsimp only at *;have m2:=median_b d (a:=j-1) (b:=j) (x:=j+1) (n:=d.size) (s:=s1) (by omega) (by omega) (by omega);have e2:=fun W C=>medAdjU blk off cap j w.heap.size s1 d0 d w0 W R hs C (by omega) (by omega) hsz (by omega)
   change (medianAdjacent uLt d j s1).1 < _∧(medianAdjacent uLt d j s1).2≤_ at m2
   generalize medianAdjacent uLt d j s1=r2 at *;obtain ⟨p2,s2⟩:=r2;dsimp only at *;have m3:=median_b d (a:=k-1) (b:=k) (x:=k+1) (n:=d.size) (s:=s2) (by omega) (by omega) (by omega);have e3:=fun W C=>medAdjU blk off cap k w.heap.size s2 d0 d w0 W R hs C (by omega) (by omega) hsz (by omega)
   change (medianAdjacent uLt d k s2).1 < _∧(medianAdjacent uLt d k s2).2≤_ at m3
   generalize medianAdjacent uLt d k s2=r3 at *;obtain ⟨p3,s3⟩:=r3;dsimp only at *;have e4:=fun W C=>medianU blk off cap p1 p2 p3 w.heap.size s3 d0 d w0 W R hs C m1.1 m2.1 m3.1 hsz (by omega);generalize median uLt d p1 p2 p3 s3=r4 at *;obtain ⟨q,S⟩:=r4;dsimp only at *;have E1:=hid e1;have E2:=hid e2;have E3:=hid e3;have E4:=hid e4;have HP:=hid hP;clear e1 e2 e3 e4 hP m1 m2 m3 hi hj hk hL hs hkd hjd hid';go_enter Tryz.func307,Tryz.ntmps307
   go_wp2_with (first
    | (go_at_call 327;have hq:=C2;clear hq;refine (E3.out _ C2.out).mono ?_;rintro e w3 ⟨rfl,c3⟩;have C3:Hid (Cnt1 uV w0 blk off d w.heap.size s3 w3):=c3;clear c3)
    | (go_at_call 327;have hq:=C1;clear hq;refine (E2.out _ C1.out).mono ?_;rintro e w2 ⟨rfl,c2⟩;have C2:Hid (Cnt1 uV w0 blk off d w.heap.size s2 w2):=c2;clear c2)
    | (go_at_call 327;refine (E1.out _ C0.out).mono ?_;rintro e w1 ⟨rfl,c1⟩;have C1:Hid (Cnt1 uV w0 blk off d w.heap.size s1 w1):=c1;clear c1))
   go_at_call 328;refine (E4.out _ C3.out).mono ?_;rintro e W ⟨rfl,c4⟩;have C9:Hid (Cnt1 uV w0 blk off d w.heap.size S W):=c4;clear c4;have k1:W.cell? (Ad w.heap.size 0)=some (I6 S):=C9.out.2.1;by_cases s0:S=0
   ·subst s0;have k2:W.cell? (Ad w.heap.size 0)=some (I6 0):=k1;clear k1;go_wp2_with fail;go_ret2;refine ⟨?_,C9.out.1⟩;rw [HP.out];rfl
   ·by_cases s1:S=12
    ·subst s1;have k2:W.cell? (Ad w.heap.size 0)=some (I6 12):=k1;clear k1;go_wp2_with fail;go_ret2;refine ⟨?_,C9.out.1⟩;rw [HP.out];rfl
    ·have z0:((S:Int)==0)=false:=by simpa using s0
     have z1:((S:Int)==12)=false:=by simp;omega
     have y0:¬ (S:Int)=0:=by omega
     have y1:¬ (S:Int)=12:=by omega
     go_wp2_with fail;go_ret2;refine ⟨?_,C9.out.1⟩;rw [HP.out,if_neg s0,if_neg s1];rfl
  ·rw [if_neg h50] at hP;have h50z:¬ (50:Int)≤(L:Int):=by omega
   have e4:=fun W C=>medianU blk off cap i j k w.heap.size 0 d0 d w0 W R hs C hid' hjd hkd hsz (by omega);generalize median uLt d i j k 0=r4 at *;obtain ⟨q,S⟩:=r4;dsimp only at *;have E4:=hid e4;have HP:=hid hP;clear e4 hP hi hj hk hL hs hkd hjd hid';go_enter Tryz.func307,Tryz.ntmps307;go_wp2_with fail;go_at_call 328;refine (E4.out _ C0.out).mono ?_;rintro e W ⟨rfl,c4⟩;have C9:Hid (Cnt1 uV w0 blk off d w.heap.size S W):=c4;clear c4;have k1:W.cell? (Ad w.heap.size 0)=some (I6 S):=C9.out.2.1;by_cases s0:S=0
   ·subst s0;have k2:W.cell? (Ad w.heap.size 0)=some (I6 0):=k1;clear k1;go_wp2_with fail;go_ret2;refine ⟨?_,C9.out.1⟩;rw [HP.out];rfl
   ·by_cases s1:S=12
    ·subst s1;have k2:W.cell? (Ad w.heap.size 0)=some (I6 12):=k1;clear k1;go_wp2_with fail;go_ret2;refine ⟨?_,C9.out.1⟩;rw [HP.out];rfl
    ·have z0:((S:Int)==0)=false:=by simpa using s0
     have z1:((S:Int)==12)=false:=by simp;omega
     have y0:¬ (S:Int)=0:=by omega
     have y1:¬ (S:Int)=12:=by omega
     go_wp2_with fail;go_ret2;refine ⟨?_,C9.out.1⟩;rw [HP.out,if_neg s0,if_neg s1];rfl
 ·rw [if_neg h8] at hP;have h8z:¬ (8:Int)≤(L:Int):=by omega
  dsimp only at hP;have HP:=hid hP;clear hP hi hj hk hL hs hkd hjd hid';have k1:(w.alloc (.cells #[I6 0] 3)).cell? (Ad w.heap.size 0)=some (I6 0):=C0.out.2.1;go_enter Tryz.func307,Tryz.ntmps307;go_wp2_with fail;go_ret2;refine ⟨?_,C0.out.1⟩;rw [HP.out];rfl
theorem revU (blk off cap a b:Nat) (d0 d:Array Int) (w0 w:World) (R:Row1 uV w0 blk off d0) (hs:d.size=d0.size) (S:SW uV w0 blk off d w) (hab:a≤b) (hb:b≤d.size) (hsz:d.size<4611686018427387904) :
  Cs 308 #[.slice (some (Ad blk off)) d.size cap,I6 a,I6 b] w fun e w'=>e=.returned (.tuple #[])∧SW uV w0 blk off (reverseRange d a b) w':=by
 have HS:Hid (d.size=d0.size):=hs;have S0:Hid (SW uV w0 blk off d w):=S;clear S hs;go_enter Tryz.func308,Tryz.ntmps308;go_wp2;go_loopw [6,7] (fun vi vj wr=>∃ (i j:Nat) (dk:Array Int),vi=I6 i∧vj=I6 ((j:Int)-1)∧j≤d.size∧i≤d.size∧dk.size=d.size∧Hid (SW uV w0 blk off dk wr)∧Hid (reverseLoop i (j-1) dk=reverseLoop a (b-1) d)) (fun vi vj _=>(intOf vj-intOf vi).toNat)
 case atStart=>exact ⟨a,b,d,rfl,rfl,hb,by omega,rfl,S0,rfl⟩
 case round=>
  clear S0;obtain ⟨i,j,dk,rfl,rfl,hj,hi,hsk,S1,HO⟩:=hrel;by_cases hij:i+1<j
  ·obtain ⟨G,hG⟩:∃ G:Nat→Int,∀ t,G t=dk[t]! := ⟨fun t=>dk[t]!,fun _=>rfl⟩;obtain ⟨hcw,hfw⟩:=fam R S1.out (hsk.trans HS.out) HS.out G hG;have HG:Hid (∀ t,G t=dk[t]!):=hG;clear hG;obtain ⟨k,hk⟩:∃ k,j=k+1:=⟨j-1,by omega⟩;subst hk;have hkz:((k+1:Nat):Int)-1=(k:Int):=by omega
   simp only [hkz];have h1:(i:Int)<(k:Int):=by omega
   go_wp2_with fail;go_region
   have S5:Hid (SW uV w0 blk off (swp dk i k) ((wr.setCell ⟨blk,off+i,none⟩ (U6 (G k))).setCell ⟨blk,off+k,none⟩ (U6 (G i))).drew):=by
    have q:=S1.out.swapped R i k (by omega) (by omega);rw [HG.out,HG.out];exact q
   generalize World.drew _=w5 at S5 ⊢;go_wp2;go_roundw
   case rel=>
    refine ⟨i+1,k,swp dk i k,by go_num,rfl,by omega,by omega,by rw [size_swp];exact hsk,S5,?_⟩;show reverseLoop (i+1) (k-1) (swp dk i k)=_;rw [← HO.out,Nat.add_sub_cancel]
    conv=>rhs;rw [reverseLoop,if_pos (show i<k by omega)]
   case measure=>simp [intOf];omega
  ·have h1:¬ (i:Int)<(j:Int)-1:=by omega
   go_wp2;go_end0;refine ⟨rfl,?_⟩;unfold reverseRange;rw [← HO.out,reverseLoop,if_neg (by omega)];exact S1.out

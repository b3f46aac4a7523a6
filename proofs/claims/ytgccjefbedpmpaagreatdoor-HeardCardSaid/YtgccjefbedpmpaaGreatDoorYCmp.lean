import Derived.Test.YtgccjefbedpmpaaGreatDoorYOpsF
import Derived.Sort.Grow
import Derived.Deep.LoopGhost
namespace Go.Proofs.YtgccjefbedpmpaaGreatDoor
open Go.RowKit Go.Sort
set_option maxRecDepth 100000
set_option maxHeartbeats 8000000
variable {A B : World} {x y : Opn}
def Grows (W W':World):Prop:=∃ q os,W'=grow (W.drewN q) os
theorem Grows.refl (W:World):Grows W W:=⟨0,#[],by rw [grow_empty];rfl⟩
theorem Grows.trans {C:World} (h:Grows A B) (k:Grows B C):Grows A C:=by
 obtain ⟨q,os,rfl⟩:=h;obtain ⟨q',os',rfl⟩:=k;refine ⟨q+q',os++os',?_⟩;simp only [grow,World.drewN,Array.append_assoc,zu]
theorem Grows.alloc (h:Grows A B) (o:Obj):Grows A (B.alloc o):=h.trans ⟨0,#[o],by rw [alloc_eq_grow];rfl⟩
theorem Grows.drew (h:Grows A B):Grows A B.drew:=h.trans ⟨1,#[],by rw [grow_empty];rfl⟩
theorem Grows.below (h:Grows A B):Bel A B:=by
 obtain ⟨q,os,rfl⟩:=h;exact ⟨rfl,rfl,rfl,by show A.heap.size≤(A.heap++os).size;rw [Array.size_append];omega,fun i hi=>by show (A.heap++os)[i]?=_;rw [jl hi]⟩
def cmpI (a b:Int):Int:=if a<b then -1 else if b<a then 1 else 0
theorem nan64 (a:Int) (w:World):Cs 232 #[U6 a] w fun e w'=>e=.returned (.bool false)∧w'=w:=by
 go_enter Tryz.func232,Tryz.ntmps232;go_wp2;go_ret;exact ⟨rfl,rfl⟩
theorem nan32 (a:Int) (w:World):Cs 303 #[U3 a] w fun e w'=>e=.returned (.bool false)∧w'=w:=by
 go_enter Tryz.func303,Tryz.ntmps303;go_wp2;go_ret;exact ⟨rfl,rfl⟩
theorem cmp64 (a b:Int) (w:World):Cs 168 #[U6 a,U6 b] w fun e w'=>e=.returned (I6 (cmpI a b))∧w'=w:=by
 unfold cmpI;rcases Int.lt_trichotomy a b with h|h|h
 ·rw [if_pos h];go_enter Tryz.func168,Tryz.ntmps168;go_wp2_with (go_at_call 232;refine (nan64 _ _).mono ?_;rintro e w1 ⟨rfl,rfl⟩);go_ret;exact ⟨rfl,rfl⟩
 ·subst h;rw [if_neg (Int.lt_irrefl _),if_neg (Int.lt_irrefl _)];go_enter Tryz.func168,Tryz.ntmps168;go_wp2_with (go_at_call 232;refine (nan64 _ _).mono ?_;rintro e w1 ⟨rfl,rfl⟩);go_ret;exact ⟨rfl,rfl⟩
 ·have h':¬ a<b:=by omega
  rw [if_neg h',if_pos h];go_enter Tryz.func168,Tryz.ntmps168;go_wp2_with (go_at_call 232;refine (nan64 _ _).mono ?_;rintro e w1 ⟨rfl,rfl⟩);go_ret;exact ⟨rfl,rfl⟩
theorem cmp32 (a b:Int) (w:World):Cs 269 #[U3 a,U3 b] w fun e w'=>e=.returned (I6 (cmpI a b))∧w'=w:=by
 unfold cmpI;rcases Int.lt_trichotomy a b with h|h|h
 ·rw [if_pos h];go_enter Tryz.func269,Tryz.ntmps269;go_wp2_with (go_at_call 303;refine (nan32 _ _).mono ?_;rintro e w1 ⟨rfl,rfl⟩);go_ret;exact ⟨rfl,rfl⟩
 ·subst h;rw [if_neg (Int.lt_irrefl _),if_neg (Int.lt_irrefl _)];go_enter Tryz.func269,Tryz.ntmps269;go_wp2_with (go_at_call 303;refine (nan32 _ _).mono ?_;rintro e w1 ⟨rfl,rfl⟩);go_ret;exact ⟨rfl,rfl⟩
 ·have h':¬ a<b:=by omega
  rw [if_neg h',if_pos h];go_enter Tryz.func269,Tryz.ntmps269;go_wp2_with (go_at_call 303;refine (nan32 _ _).mono ?_;rintro e w1 ⟨rfl,rfl⟩);go_ret;exact ⟨rfl,rfl⟩
def or3 (a b c:Int):Int:=if a≠0 then a else if b≠0 then b else c
theorem keyGrow (o:Opn) (hcl:0≤o.cl∧o.cl<4294967296) (hck:0≤o.ck∧o.ck<4294967296) (w:World):Cs 93 #[.agg (oC o)] w fun e w'=>e=.returned (U6 o.key)∧Grows w w':=by
 go_enter Tryz.func93,Tryz.ntmps93;go_wp2_with (go_at_call 105;refine (pKey_any _ _ hcl hck _).mono ?_;rintro e w1 ⟨rfl,rfl⟩);go_ret;exact ⟨rfl,(Grows.refl _).alloc _⟩
theorem or_any (a b c:Int) (w:World):Cs 268 #[.slice (some (Ad w.heap.size 0)) 3 3] (w.alloc (.cells #[I6 a,I6 b,I6 c] 3)) fun e w'=>e=.returned (I6 (or3 a b c))∧w'=w.alloc (.cells #[I6 a,I6 b,I6 c] 3):=by
 have c0:(w.alloc (.cells #[I6 a,I6 b,I6 c] 3)).cell? (Ad w.heap.size 0)=some (I6 a):=(cell_of_row _ _ _ _ _ _ (heap_alloc_new w _)).trans rfl;have c1:(w.alloc (.cells #[I6 a,I6 b,I6 c] 3)).cell? (Ad w.heap.size 1)=some (I6 b):=(cell_of_row _ _ _ _ _ _ (heap_alloc_new w _)).trans rfl;have c2:(w.alloc (.cells #[I6 a,I6 b,I6 c] 3)).cell? (Ad w.heap.size 2)=some (I6 c):=(cell_of_row _ _ _ _ _ _ (heap_alloc_new w _)).trans rfl;generalize w.alloc (.cells #[I6 a,I6 b,I6 c] 3)=w1 at *;generalize w.heap.size=g at *;clear w;go_enter Tryz.func268,Tryz.ntmps268;go_wp2;go_loopw [8] (fun iv wr=>wr=w1∧∃ j:Nat,j≤3∧iv=I6 j∧(1≤j→a=0)∧(2≤j→b=0)∧(3≤j→c=0)) (fun iv _=>3-(intOf iv).toNat)
 case atStart=>exact ⟨rfl,0,qs _,rfl,fun h=>absurd h (by decide),fun h=>absurd h (by decide),fun h=>absurd h (by decide)⟩
 case round=>
  obtain ⟨rfl,j,hj,rfl,h1,h2,h3⟩:=hrel
  match j,hj with
  | 0,_=>
   clear h1 h2 h3;by_cases ha:a=0
   ·subst ha;go_wp2;go_roundw
    case rel=>exact ⟨by trivial,1,by decide,rfl,by simp,by simp,by simp⟩
    case measure=>simp [intOf]
   ·have ha':(a != 0)=true:=by simpa using ha
    go_wp2;go_ret;exact ⟨by rw [or3,if_pos ha];rfl,rfl⟩
  | 1,_=>
   obtain rfl:=h1 (by decide);clear h1 h2 h3;by_cases ha:b=0
   ·subst ha;go_wp2;go_roundw
    case rel=>exact ⟨by trivial,2,by decide,rfl,by simp,by simp,by simp⟩
    case measure=>simp [intOf]
   ·have ha':(b != 0)=true:=by simpa using ha
    go_wp2;go_ret;exact ⟨by rw [or3,if_neg (by simp),if_pos ha];rfl,rfl⟩
  | 2,_=>
   obtain rfl:=h1 (by decide);obtain rfl:=h2 (by decide);clear h1 h2 h3;by_cases ha:c=0
   ·subst ha;go_wp2;go_roundw
    case rel=>exact ⟨by trivial,3,by decide,rfl,by simp,by simp,by simp⟩
    case measure=>simp [intOf]
   ·have ha':(c != 0)=true:=by simpa using ha
    go_wp2;go_ret;exact ⟨by rw [or3,if_neg (by simp),if_neg (by simp)];rfl,rfl⟩
  | 3,_=>
   obtain rfl:=h1 (by decide);obtain rfl:=h2 (by decide);obtain rfl:=h3 (by decide);clear h1 h2 h3;go_wp2;go_ret;exact ⟨rfl,rfl⟩
def placeC (x y:Opn):Int:=or3 (cmpI x.rf y.rf) (cmpI y.st x.st) (cmpI y.key x.key)
structure TwoS (w W:World) (x y:Opn):Prop where
 grows:Grows w W
 rx:RowIs W w.heap.size 43 6 (opV x)
 ry:RowIs W (w.heap.size+1) 43 6 (opV y)
theorem TwoS.kept {w W W2:World} (h:TwoS w W x y) (hg:Grows W W2):TwoS w W2 x y:=⟨h.grows.trans hg,h.rx.below hg.below h.rx.lt,h.ry.below hg.below h.ry.lt⟩
theorem TwoS.drew {w W:World} (h:TwoS w W x y):TwoS w W.drew x y:=h.kept (Grows.refl _).drew
theorem TwoS.cx {w W:World} (h:TwoS w W x y):W.cell? (Ad w.heap.size 0)=some (I6 x.kd)∧W.cell? (Ad w.heap.size 1)=some (U3 x.cl)∧W.cell? (Ad w.heap.size 2)=some (U3 x.ck)∧W.cell? (Ad w.heap.size 3)=some (U3 x.st)∧W.cell? (Ad w.heap.size 4)=some (U6 x.rf)∧W.cell? (Ad w.heap.size 5)=some (I3 x.ch):=⟨h.rx.cell (j:=0) (by omega),h.rx.cell (j:=1) (by omega),h.rx.cell (j:=2) (by omega),h.rx.cell (j:=3) (by omega),h.rx.cell (j:=4) (by omega),h.rx.cell (j:=5) (by omega)⟩
theorem TwoS.cy {w W:World} (h:TwoS w W x y):W.cell? ⟨w.heap.size+1,0,none⟩=some (I6 y.kd)∧W.cell? ⟨w.heap.size+1,1,none⟩=some (U3 y.cl)∧W.cell? ⟨w.heap.size+1,2,none⟩=some (U3 y.ck)∧W.cell? ⟨w.heap.size+1,3,none⟩=some (U3 y.st)∧W.cell? ⟨w.heap.size+1,4,none⟩=some (U6 y.rf)∧W.cell? ⟨w.heap.size+1,5,none⟩=some (I3 y.ch):=⟨h.ry.cell (j:=0) (by omega),h.ry.cell (j:=1) (by omega),h.ry.cell (j:=2) (by omega),h.ry.cell (j:=3) (by omega),h.ry.cell (j:=4) (by omega),h.ry.cell (j:=5) (by omega)⟩
theorem TwoS.new (w:World) (x y:Opn):TwoS w ((w.alloc (.cells (oC x) 43)).alloc (.cells (oC y) 43)) x y:=by
 have hz:(w.alloc (.cells (oC x) 43)).heap.size=w.heap.size+1:=by simp
 have r1:=RowIs.last (w:=w) (t:=43) (f:=opV x) (n:=6) (cs:=(oC x)) rfl rfl;have r2:=RowIs.last (w:=w.alloc (.cells (oC x) 43)) (t:=43) (f:=opV y) (n:=6) (cs:=(oC y)) rfl rfl;rw [hz] at r2;exact ⟨((Grows.refl _).alloc _).alloc _,r1.alloc _,r2⟩
theorem byPlace_any (x y:Opn) (hx:(0≤x.cl∧x.cl<4294967296)∧(0≤x.ck∧x.ck<4294967296)) (hy:(0≤y.cl∧y.cl<4294967296)∧(0≤y.ck∧y.ck<4294967296)) (w:World):Cs 219 #[.agg (oC x),.agg (oC y)] w fun e w'=>e=.returned (I6 (placeC x y))∧Grows w w':=by
 have HX:Hid (∀ W,Cs 93 #[.agg (oC x)] W fun e w'=>e=.returned (U6 x.key)∧Grows W w'):=keyGrow x hx.1 hx.2;have HY:Hid (∀ W,Cs 93 #[.agg (oC y)] W fun e w'=>e=.returned (U6 y.key)∧Grows W w'):=keyGrow y hy.1 hy.2;have H0:Hid (TwoS w _ x y):=TwoS.new w x y;clear hx hy;unfold placeC;go_enter Tryz.func219,Tryz.ntmps219;go_wp2;refine wp_region_held_drew (S:=fun w'=>TwoS w w' x y) (by kernel_rfl) H0.out.drew (fun hHeld=>?_);clear H0;generalize World.drew _=wD at hHeld ⊢;refine ks 0 5 ?_;refine x9 1 6 (fun _ h=>TwoS.cx h) ?_;refine ks 2 7 ?_;refine x9 3 8 (fun _ h=>TwoS.cy h) ?_;refine ks 5 10 ?_;refine x9 6 11 (fun _ h=>TwoS.cy h) ?_;refine ks 7 12 ?_;refine x9 8 13 (fun _ h=>TwoS.cx h) ?_;refine x9 10 15 (fun _ h=>TwoS.cy h) ?_;refine x9 12 17 (fun _ h=>TwoS.cx h) ?_;refine rd 4 (some 9) rfl (fun K hK=>?_);go_simp;refine (cmp64 _ _ _).mono ?_;rintro e wz ⟨rfl,hwz⟩;obtain rfl:=hwz.symm;refine hK.out _ _ hHeld fun hHeld=>?_;clear hK K;refine rd 9 (some 14) rfl (fun K hK=>?_);go_simp;refine (cmp32 _ _ _).mono ?_;rintro e wz ⟨rfl,hwz⟩;obtain rfl:=hwz.symm;refine hK.out _ _ hHeld fun hHeld=>?_;clear hK K;refine rd 11 (some 16) rfl (fun K hK=>?_);go_simp;refine (HY.out _).mono ?_;rintro e w1 ⟨rfl,hg⟩;refine hK.out _ _ (hHeld.kept hg) (fun hHeld=>?_);clear hK K hg;refine rd 13 (some 18) rfl (fun K hK=>?_);go_simp;refine (HX.out _).mono ?_;rintro e w2 ⟨rfl,hg⟩;refine hK.out _ _ (hHeld.kept hg) (fun hHeld=>?_);clear hK K hg;refine rd 14 (some 19) rfl (fun K hK=>?_);go_simp;refine (cmp64 _ _ _).mono ?_;rintro e wz ⟨rfl,hwz⟩;obtain rfl:=hwz.symm;refine hK.out _ _ hHeld fun hHeld=>?_;clear hK K;refine rd 15 (some 20) rfl (fun K hK=>?_);go_simp;refine hK.out _ _ (hHeld.kept ((Grows.refl _).alloc _)) (fun hHeld=>?_);clear hK K;refine rd 16 (some 21) rfl (fun K hK=>?_);go_simp;refine (or_any _ _ _ _).mono ?_;rintro e wz ⟨rfl,hwz⟩;obtain rfl:=hwz.symm;refine hK.out _ _ hHeld fun hHeld=>?_;clear hK K;refine rdg 17 (some 4) ?_;refine xy ?_;go_wp2_with fail;go_ret;exact ⟨rfl,hHeld.grows⟩
structure BsP (cf:Opn→Int) (os:List Opn) (i:Nat):Prop where
 le:i≤os.length
 ahead:∀ k (h:k<os.length),k<i→cf os[k]<0
 behind:∀ k (h:k<os.length),i≤k→0≤cf os[k]
def bsF (cf:Opn→Int) (os:List Opn) (i:Nat):Bool:=match os[i]? with
 | none=>false
 | some o=>decide (cf o=0)
def BsM (cf:Opn→Int) (os:List Opn):Prop:=∀ p q (_:p<q) (hq:q<os.length),cf os[q]<0→cf (os[p]'(by omega))<0
theorem bsf_any (f:Nat) (cf:Opn→Int) (tg:Int) (a:Option Addr) (cap:Nat) (os:List Opn) (w:World) (eg:∀ args w,(callFunc f args).run Tryz.prog w=.ok (.enter f args) w)
  (hc:∀ o∈os,∀ W,Cs f #[.agg (oC o),U6 tg] W fun e w'=>e=.returned (I6 (cf o))∧Bel W w')
  (hO:OpsIs w a os) (hn:os.length<4611686018427387904) (hM:BsM cf os) :
  Cs 166 #[.slice a os.length cap,U6 tg,.func (.func f) #[] #[]] w fun e w'=>(∃ i,BsP cf os i∧e=.returned (.tuple #[I6 i,.bool (bsF cf os i)]))∧Bel w w':=by
 have HC:Hid (∀ o∈os,∀ W,Cs f #[.agg (oC o),U6 tg] W fun e w'=>e=.returned (I6 (cf o))∧Bel W w'):=hc;have HM:Hid (BsM cf os):=hM;have HO:Hid (OpsIs w a os):=hO;clear hc hM hO;go_enter Tryz.func166,Tryz.ntmps166;go_wp2;go_loopg [9,10] os.length (fun g s7 s8 wr=>∃ lo hi:Nat,s7=I6 lo∧s8=I6 hi∧lo≤hi∧hi≤os.length∧hi-lo≤g∧Hid (Bel w wr)∧Hid (∀ k (h:k<os.length),k<lo→cf os[k]<0)∧Hid (∀ k (h:k<os.length),hi≤k→0≤cf os[k]))
 case atStart=>exact ⟨0,os.length,rfl,rfl,qs _,qb _,by omega,qj _ _,fun k _ h=>absurd h (yl _),fun k h1 h2=>by omega⟩
 case round=>
  obtain ⟨lo,hi,rfl,rfl,hlh,hin,hg,B,I1,I2⟩:=hrel;by_cases hlt:lo<hi
  ·have hm:(lo+hi) / 2<os.length:=by omega
   rcases HO.out with rfl|⟨gb,off,rfl,hO⟩
   ·cases hm
   obtain ⟨c0,c1,c2,c3,c4,c5⟩:=(hO.below B.out).cells hm;have HCm:=HC.out os[(lo+hi) / 2] (qn hm);generalize ho:os[(lo+hi) / 2]=o at *;have Y:Hid (os[(lo+hi) / 2]=o):=ho;have HCm':Hid (∀ W,Cs f #[.agg (oC o),U6 tg] W fun e w'=>e=.returned (I6 (cf o))∧Bel W w'):=HCm;clear ho HCm;by_cases hcf:cf o<0
   ·go_wp2_with (go_at_fn f;refine (HCm'.out _).mono ?_;rintro e w1 ⟨rfl,hb1⟩);go_roundg (hi-((lo+hi) / 2+1))
    case measure=>omega
    case rel=>
     refine ⟨(lo+hi) / 2+1,hi,by rw [show ((lo:Int)+(hi:Int)) / 2+1=(((lo+hi) / 2+1:Nat):Int) by omega],rfl,by omega,hin,qb _,B.out.trans (hb1.mono B.out.size),fun k h hk=>?_,I2.out⟩;rcases zr k ((lo+hi) / 2) with h2|h2
     ·exact HM.out k ((lo+hi) / 2) h2 hm (by rw [Y.out];exact hcf)
     ·have:k=(lo+hi) / 2:=by omega
      subst this;rw [Y.out];exact hcf
   ·go_wp2_with (go_at_fn f;refine (HCm'.out _).mono ?_;rintro e w1 ⟨rfl,hb1⟩);go_roundg ((lo+hi) / 2-lo)
    case measure=>omega
    case rel=>
     refine ⟨lo,(lo+hi) / 2,rfl,by rw [show ((lo:Int)+(hi:Int)) / 2=(((lo+hi) / 2:Nat):Int) by omega],by omega,by omega,qb _,B.out.trans (hb1.mono B.out.size),I1.out,fun k h hk=>?_⟩;rcases zr ((lo+hi) / 2) k with h2|h2
     ·rcases jg (cf os[k]) 0 with h3|h3
      ·have:=HM.out _ k h2 h h3;rw [Y.out] at this;omega
      ·exact h3
     ·have:k=(lo+hi) / 2:=by omega
      subst this;rw [Y.out];omega
  ·obtain rfl:lo=hi:=by omega
   have HP:Hid (BsP cf os lo):=⟨hin,I1.out,I2.out⟩;by_cases hl:lo<os.length
   ·rcases HO.out with rfl|⟨gb,off,rfl,hO⟩
    ·cases hl
    obtain ⟨c0,c1,c2,c3,c4,c5⟩:=(hO.below B.out).cells hl;have HCm:=HC.out os[lo] (qn hl);have Y:Hid (bsF cf os lo=decide (cf os[lo]=0)):=by unfold bsF;rw [qk hl];exact rfl
    generalize ho:os[lo]=o at *;have HCm':Hid (∀ W,Cs f #[.agg (oC o),U6 tg] W fun e w'=>e=.returned (I6 (cf o))∧Bel W w'):=HCm;clear ho HCm;go_wp2_with (go_at_fn f;refine (HCm'.out _).mono ?_;rintro e w1 ⟨rfl,hb1⟩);go_ret2;refine ⟨⟨lo,HP.out,?_⟩,B.out.trans (hb1.mono B.out.size)⟩;rw [Y.out];rfl
   ·have Y:Hid (bsF cf os lo=false):=by unfold bsF;rw [zj (by omega)];exact rfl
    have hl2:¬ (lo:Int)<(os.length:Int):=by omega
    go_wp2;go_ret2;refine ⟨⟨lo,HP.out,?_⟩,B.out⟩;rw [Y.out];rfl
theorem first1_any (o:Opn) (tg:Int) (w:World):Cs 329 #[.agg (oC o),U6 tg] w fun e w'=>e=.returned (I6 (cmpI o.rf tg))∧Bel w w':=by
 go_enter Tryz.func329,Tryz.ntmps329;go_wp2_with (go_at_call 168;refine (cmp64 _ _ _).mono ?_;rintro e w1 ⟨rfl,rfl⟩);go_ret;exact ⟨rfl,(qj _ _).alloc (qb _) _⟩
def NumsAt (w:World) (a:Option Addr) (us:List Int):Prop:=us=[]∨∃ g off,a=some (Ad g off)∧∀ i (h:i<us.length),w.cell? ⟨g,off+i,none⟩=some (U6 us[i])
def OwnU (w:World) (B:Nat) (v:Value) (us:List Int):Prop:=w.ownsRow B 41 1 v us.length (u64s us)
theorem OwnU.at {w:World} {B n c:Nat} {a:Option Addr} {us:List Int} (h:OwnU w B (.slice a n c) us):NumsAt w a us:=by
 rcases h.2 with ⟨e,h0⟩|⟨g,cap,cur,e,h3,h4,h5,h6,h7,h8⟩
 ·exact Or.inl (jm h0)
 ·cases e;refine Or.inr ⟨g,0,rfl,fun i hi=>?_⟩;have:=za h i (by omega);rw [q9,this];simp [u64s,hi]
theorem less64' (x y:Int) (w:World):Cs 310 #[U6 x,U6 y] w fun e w'=>e=.returned (.bool (decide (x<y)))∧w'=w:=by
 go_enter Tryz.func310,Tryz.ntmps310;go_wp2_with (go_at_call 232;refine (nan64 _ _).mono ?_;rintro e w1 ⟨rfl,rfl⟩);go_ret;exact ⟨rfl,rfl⟩
theorem nanS64 (a:Int) (w:World):Cs 314 #[U6 a] w fun e w'=>e=.returned (.bool false)∧w'=w:=by
 go_enter Tryz.func314,Tryz.ntmps314;go_wp2;go_ret;exact ⟨by simp,rfl⟩
theorem bsu_any (x:Int) (a:Option Addr) (cap:Nat) (us:List Int) (w:World) (hO:NumsAt w a us) (hn:us.length<4611686018427387904) (hM:us.Pairwise (·≤·)) :
  Cs 272 #[.slice a us.length cap,U6 x] w fun e w'=>(∃ i:Nat,e=.returned (.tuple #[I6 i,.bool (us.contains x)]))∧Bel w w':=by
 have HM:Hid (∀ p q (_:p<q) (hq:q<us.length),us[p]'(by omega)≤us[q]):=fun p q hpq hq=>zl.1 hM p q (by omega) hq hpq;have HO:Hid (NumsAt w a us):=hO;generalize hC:us.contains x=C;have HC:Hid (us.contains x=C):=hC;clear hM hO hC;go_enter Tryz.func272,Tryz.ntmps272;go_wp2;go_loopg [7,8] us.length (fun g s7 s8 wr=>∃ lo hi:Nat,s7=I6 lo∧s8=I6 hi∧lo≤hi∧hi≤us.length∧hi-lo≤g∧Hid (Bel w wr)∧Hid (∀ k (h:k<us.length),k<lo→us[k]<x)∧Hid (∀ k (h:k<us.length),hi≤k→x≤us[k]))
 case atStart=>exact ⟨0,us.length,rfl,rfl,qs _,qb _,by omega,qj _ _,fun k _ h=>absurd h (yl _),fun k h1 h2=>by omega⟩
 case round=>
  obtain ⟨lo,hi,rfl,rfl,hlh,hin,hg,B,I1,I2⟩:=hrel;by_cases hlt:lo<hi
  ·have hm:(lo+hi) / 2<us.length:=by omega
   rcases HO.out with rfl|⟨gb,off,rfl,hO⟩
   ·cases hm
   have c0:=(B.out.cell (block_lt_of_cell (hO _ hm))).trans (hO _ hm);clear hO;generalize ho:us[(lo+hi) / 2]=y at *;have Y:Hid (us[(lo+hi) / 2]=y):=ho;clear ho;by_cases hcf:y<x
   ·go_wp2_with (go_at_call 310;refine (less64' _ _ _).mono ?_;rintro e w1 ⟨rfl,rfl⟩);go_roundg (hi-((lo+hi) / 2+1))
    case measure=>omega
    case rel=>
     refine ⟨(lo+hi) / 2+1,hi,by rw [show ((lo:Int)+(hi:Int)) / 2+1=(((lo+hi) / 2+1:Nat):Int) by omega],rfl,by omega,hin,qb _,B.out,fun k h hk=>?_,I2.out⟩;rcases zr k ((lo+hi) / 2) with h2|h2
     ·have:=HM.out k ((lo+hi) / 2) h2 hm;rw [Y.out] at this;omega
     ·have:k=(lo+hi) / 2:=by omega
      subst this;rw [Y.out];exact hcf
   ·go_wp2_with (go_at_call 310;refine (less64' _ _ _).mono ?_;rintro e w1 ⟨rfl,rfl⟩);go_roundg ((lo+hi) / 2-lo)
    case measure=>omega
    case rel=>
     refine ⟨lo,(lo+hi) / 2,rfl,by rw [show ((lo:Int)+(hi:Int)) / 2=(((lo+hi) / 2:Nat):Int) by omega],by omega,by omega,qb _,B.out,I1.out,fun k h hk=>?_⟩;rcases zr ((lo+hi) / 2) k with h2|h2
     ·have:=HM.out _ k h2 h;rw [Y.out] at this;omega
     ·have:k=(lo+hi) / 2:=by omega
      subst this;rw [Y.out];omega
  ·obtain rfl:lo=hi:=by omega
   by_cases hl:lo<us.length
   ·rcases HO.out with rfl|⟨gb,off,rfl,hO⟩
    ·cases hl
    have c0:=(B.out.cell (block_lt_of_cell (hO _ hl))).trans (hO _ hl);clear hO
    have Y:Hid (us.contains x=decide (us[lo]=x)):=by
     show us.contains x=decide (us[lo]=x);rw [Bool.eq_iff_iff,ji,decide_eq_true_eq];refine ⟨fun h=>?_,fun h=>h▸qn hl⟩;obtain ⟨k,hk,rfl⟩:=qw.1 h;rcases kl k lo with h2|h2|h2
     ·have:=I1.out k hk h2;omega
     ·subst h2;rfl
     ·have h3:=HM.out lo k h2 hk;have h4:=I2.out lo hl (qb _);omega
    generalize ho:us[lo]=y at *;clear ho;by_cases hy:y=x
    ·subst hy;go_wp2;go_ret2;refine ⟨⟨lo,?_⟩,B.out⟩;rw [show C=true from HC.out.symm.trans (Y.out.trans (by simp))];rfl
    ·have hy2:(y==x)=false:=by simpa using hy
     go_wp2_with (go_at_call 314;refine (nanS64 _ _).mono ?_;rintro e w1 ⟨rfl,rfl⟩);go_ret2;refine ⟨⟨lo,?_⟩,B.out⟩;rw [show C=false from HC.out.symm.trans (Y.out.trans (decide_eq_false hy))];rfl
   ·have Y:Hid (us.contains x=false):=by
     show us.contains x=false;rw [← Bool.not_eq_true,ji];intro h;obtain ⟨k,hk,rfl⟩:=qw.1 h;have:=I1.out k hk (by omega);omega
    have hl2:¬ (lo:Int)<(us.length:Int):=by omega
    go_wp2;go_ret2;refine ⟨⟨lo,?_⟩,B.out⟩;rw [show C=false from HC.out.symm.trans Y.out];rfl

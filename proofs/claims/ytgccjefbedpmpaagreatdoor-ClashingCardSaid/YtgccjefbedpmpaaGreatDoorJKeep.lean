import Derived.Test.YtgccjefbedpmpaaGreatDoorJClash
import Derived.Test.YtgccjefbedpmpaaGreatDoorYAdd4
namespace Go.Proofs.YtgccjefbedpmpaaGreatDoor
open Go.RowKit Go.MuLone
set_option maxRecDepth 100000
set_option maxHeartbeats 8000000
def vP (most:Int):Nat→Nat→Int→List Int→Option (Int×List Int)
 | 0,_,_,_=>none
 | _+1,_,_,[]=>none
 | k+1,i,n,b::l=>if 128≤b then vP most k (i+1) (n+b % 128*128 ^ i) l else if b=0∧0<i then none else if most<n+b % 128*128 ^ i then none else some (n+b % 128*128 ^ i,l)
theorem vP_complete (most:Int):∀ (k i:Nat) (n:Int) (v:Nat) (r:List Int),v<128 ^ (k+1)→(0<i→0<v)→n+v*128 ^ i≤most→vP most (k+1) i n (vn v++r)=some (n+v*128 ^ i,r):=by
 intro k
 induction k with
 | zero=>
  intro i n v r h1 h2 h3
  have hv:v<128:=by simpa using h1
  rw [vn_lt hv]
  show vP most 1 i n ((v:Int)::r)=_
  rw [vP,if_neg (by omega),if_neg (fun e=>by have:=h2 e.2;omega),show (v:Int) % 128=v by omega,if_neg (by omega)]
 | succ k ih=>
  intro i n v r h1 h2 h3
  by_cases hv:v<128
  ·rw [vn_lt hv]
   show vP most (k+1+1) i n ((v:Int)::r)=_
   rw [vP,if_neg (by omega),if_neg (fun e=>by have:=h2 e.2;omega),show (v:Int) % 128=v by omega,if_neg (by omega)]
  ·rw [vn_ge hv]
   show vP most (k+1+1) i n ((128+(v:Int) % 128)::(vn (v / 128)++r))=_
   have e:n+(v:Int)*128 ^ i=n+(128+(v:Int) % 128) % 128*128 ^ i+((v / 128:Nat):Int)*128 ^ (i+1):=by
    rw [Int.pow_succ,Int.mul_comm (128 ^ i) 128,← Int.mul_assoc,Int.add_assoc,← Int.add_mul]
    congr 2
    omega
   rw [vP,if_pos (by omega),e,ih (i+1) _ (v / 128) r (by rw [Nat.pow_succ] at h1;omega) (fun _=>by omega) (by rw [← e];exact h3)]
def vR (most:Int) (l:List Int):Option (Int×List Int):=vP most 9 0 0 l
theorem vR_complete {most:Int} (hm:most<9223372036854775808) {m:Int} (h0:0≤m) (h1:m≤most) (r:List Int):vR most (vn m.toNat++r)=some (m,r):=by
 have h:=vP_complete most 8 0 0 m.toNat r (by omega) (fun h=>by omega) (by simp;omega)
 unfold vR
 rw [h]
 simp [Int.toNat_of_nonneg h0]
def oP:List Int→Option (Opn×List Int)
 | []=>none
 | k::l0=>
  match vR 1048575 l0 with
  | none=>none
  | some (cl,l1)=>match vR 1048575 l1 with
   | none=>none
   | some (ck,l2)=>match vR 1073741823 l2 with
    | none=>none
    | some (st,l3)=>match vR 1099511627775 l3 with
     | none=>none
     | some (rf,l4)=>if k=1 then match vR 1114111 l4 with
       | none=>none
       | some (ch,l5)=>some (⟨k,cl,ck,st,rf,ch⟩,l5)
      else some (⟨k,cl,ck,st,rf,0⟩,l4)
theorem oP_complete {o:Opn} (h:OpW o) (r:List Int):oP (opB o++r)=some (o,r):=by
 obtain ⟨k,cl,ck,st,rf,ch⟩:=o
 obtain ⟨hk,⟨a1,b1⟩,⟨a2,b2⟩,⟨a3,b3⟩,⟨a4,b4⟩,⟨a5,b5,c5⟩⟩:=h
 dsimp only at *
 unfold opB
 dsimp only
 rw [List.cons_append,oP,List.append_assoc,vR_complete (by decide) a1 b1]
 dsimp only
 rw [List.append_assoc,vR_complete (by decide) a2 b2]
 dsimp only
 rw [List.append_assoc,vR_complete (by decide) a3 b3]
 dsimp only
 rw [List.append_assoc,vR_complete (by decide) a4 b4]
 dsimp only
 by_cases e:k=1
 ·rw [if_pos e,if_pos e,vR_complete (by decide) a5 b5]
 ·rw [if_neg e,if_neg e,c5 e];rfl
theorem opB_inj {a b:Opn} (ha:OpW a) (hb:OpW b) (h:opB a=opB b):a=b:=by
 have h1:=oP_complete ha []
 have h2:=oP_complete hb []
 rw [h,h2] at h1
 simp only [Option.some.injEq,Prod.mk.injEq] at h1
 exact h1.1.symm
def ClSp (x y:Tr):Option (List Int×List Int)→Prop
 | none=>x.list=y.list∨chk (strOfNums x.txt)≠chk (strOfNums y.txt)
 | some (p,q)=>x.list≠y.list∧chk (strOfNums x.txt)=chk (strOfNums y.txt)∧p≠q∧chk (strOfNums p)=chk (strOfNums q)
theorem clashH_spec (x y:Tr) (z:Option (List Int×List Int)) (hz:x.list≠y.list→x.txt=y.txt→∃ p q,z=some (p,q)∧p≠q∧chk (strOfNums p)=chk (strOfNums q)):ClSp x y (clashH x y z):=by
 unfold clashH
 by_cases h1:x.list=y.list
 ·rw [if_pos h1];exact Or.inl h1
 ·rw [if_neg h1]
  by_cases h2:chk (strOfNums x.txt)=chk (strOfNums y.txt)
  ·rw [if_neg (by simp [h2])]
   by_cases h3:x.txt=y.txt
   ·rw [if_neg (by simp [h3])]
    obtain ⟨p,q,rfl,h4,h5⟩:=hz h1 h3
    exact ⟨h1,h2,h4,h5⟩
   ·rw [if_pos h3];exact ⟨h1,h2,h3,h2⟩
  ·rw [if_pos h2];exact Or.inr h2
theorem chk_len (s:ByteArray):(chk s).length=3:=rfl
theorem clash_spec:∀ (x y:Tr),x.W→y.W→ClSp x y (clashT x y)
 | ⟨none⟩,y,_,_=>by
  unfold clashT
  refine clashH_spec .nil y none fun hl ht=>?_
  cases y using Tr.cs with
  | nil=>exact absurd rfl hl
  | node m rk l r=>simp [Tr.txt] at ht
 | ⟨some (m,rk,l,r)⟩,⟨none⟩,_,_=>by
  unfold clashT
  refine clashH_spec _ .nil none fun hl ht=>?_
  simp [Tr.txt] at ht
 | ⟨some (m,rk,l,r)⟩,⟨some (m',rk',l',r')⟩,hx,hy=>by
  have il:=clash_spec l l' hx.2.1 hy.2.1
  have ir:=clash_spec r r' hx.2.2 hy.2.2
  unfold clashT
  refine clashH_spec _ _ _ fun hl ht=>?_
  simp only [Tr.txt,List.cons.injEq,true_and] at ht
  obtain ⟨e1,ht⟩:=List.append_inj ht (by rw [chk_len,chk_len])
  obtain ⟨e2,e3⟩:=List.append_inj ht (by rw [chk_len,chk_len])
  by_cases hm:m=m'
  ·subst hm
   rw [if_neg (by simp)]
   cases hA:clashT l l' with
   | some z=>
    rw [hA] at il
    exact ⟨z.1,z.2,rfl,il.2.2.1,il.2.2.2⟩
   | none=>
    rw [hA] at il
    have q1:l.list=l'.list:=il.resolve_right fun k=>k e1
    cases hB:clashT r r' with
    | some z=>
     rw [hB] at ir
     exact ⟨z.1,z.2,rfl,ir.2.2.1,ir.2.2.2⟩
    | none=>
     rw [hB] at ir
     have q2:r.list=r'.list:=ir.resolve_right fun k=>k e3
     exact absurd (show l.list++m::r.list=l'.list++m::r'.list by rw [q1,q2]) hl
  ·rw [if_pos hm]
   exact ⟨_,_,rfl,fun h=>hm (opB_inj hx.1.1 hy.1.1 (List.cons.inj h).2),e2⟩
theorem isTr_gen2 {w w':World} {X:Nat→Prop} (hb:But X w w') (hX:∀ g,X g→∀ f,¬ RowIs w g 318 9 f):∀ {t:Tr} {v:Value},IsTr w v t→IsTr w' v t
 | ⟨none⟩,_,h=>h
 | ⟨some (_,_,_,_)⟩,_,h=>by
  obtain ⟨b,vl,vr,e,hr,hl,hrr⟩:=h
  exact ⟨b,vl,vr,e,hr.but hb (fun q=>hX b q _ hr),isTr_gen2 hb hX hl,isTr_gen2 hb hX hrr⟩
theorem noNode_own2 {w:World} {B e size n g:Nat} {v:Value} {xs:List Value} (h:w.ownsRow B e size v n xs) (he:e≠318) (hg:v.ownBlock=some g):∀ k,¬ RowIs w g 318 9 k:=fun k h2=>by
 rcases h.2 with ⟨q,_⟩|⟨g',cap,cur,q,_,q2,_⟩
 ·rw [q] at hg;cases hg
 ·rw [q] at hg
  cases hg
  unfold RowIs at h2
  rw [q2] at h2
  simp only [Option.some.injEq,Obj.cells.injEq] at h2
  exact he h2.2.1
def One (w:World) (b:Nat) (cl:Int) (vW:Value) (t:Tr) (ws:List Opn):Prop:=∃ ss top vK,BookIs w b 0 cl ss top vW vK t ws∧BookOk t.list ws∧t.H
theorem One.other {w w':World} {b b2:Nat} {cl cl2:Int} {vW vW2:Value} {t t2:Tr} {ws ws2:List Opn} (h:One w b cl vW t ws) (h2:One w b2 cl2 vW2 t2 ws2) (hb:But (fun x=>x=b2∨vW2.ownBlock=some x) w w') (hne:b≠b2) (hap:∀ g,vW.ownBlock=some g→vW2.ownBlock≠some g):One w' b cl vW t ws:=by
 obtain ⟨ss,top,vK,B,ok,hH⟩:=h
 obtain ⟨ss2,top2,vK2,B2,-,-⟩:=h2
 have n1:¬ (b=b2∨vW2.ownBlock=some b):=fun e=>e.elim hne fun e=>row_apart B2.own B.row (by decide) e rfl
 have n2:∀ g,vW.ownBlock=some g→¬ (g=b2∨vW2.ownBlock=some g):=fun g hg e=>e.elim (fun e=>row_apart B.own B2.row (by decide) hg e) (hap g hg)
 have n3:∀ g,(g=b2∨vW2.ownBlock=some g)→∀ f,¬ RowIs w g 318 9 f:=fun g e f k=>e.elim (fun e=>absurd (RowIs.type_eq B2.row (e▸k)) (by decide)) (fun e=>noNode_own2 B2.own (by decide) e f k)
 have n4:∀ g,(g=b2∨vW2.ownBlock=some g)→15≤g:=fun g e=>e.elim (fun e=>by rw [e];exact B2.far) (B2.wfar g)
 exact ⟨ss,top,vK,⟨B.row.but hb n1,isTr_gen2 hb n3 B.tree,own_frame B.own fun g hg=>hb.block g (World.ownsRow.lt B.own g hg).2 (n2 g hg),B.typ,B.wtyp,B.wlen,B.size,B.env.but hb n4 (by have:=B.row.lt;have:=B.far;omega),B.far,B.wfar⟩,ok,hH⟩
theorem One.below {w w':World} {b:Nat} {cl:Int} {vW:Value} {t:Tr} {ws:List Opn} (h:One w b cl vW t ws) (hb:Below w.heap.size w w'):One w' b cl vW t ws:=by
 obtain ⟨ss,top,vK,B,ok,hH⟩:=h
 exact ⟨ss,top,vK,B.below hb,ok,hH⟩
theorem One.new {w:World} {b:Nat} {cl:Int} (hx:RowIs w b 118 7 (rep7 0 cl (.pointer none) (.slice none 0 0) 0 (.slice none 0 0))) (hE:Env w) (h2:15≤b):One w b cl (.slice none 0 0) .nil []:=
 ⟨0,.pointer none,.slice none 0 0,⟨hx,rfl,⟨rfl,Or.inl ⟨rfl,rfl⟩⟩,trivial,fun _ h=>(by cases h),by decide,Nat.zero_le _,hE,h2,fun g e=>(by cases e)⟩,BookOk.nil,trivial⟩
theorem One.add {w:World} {b:Nat} {cl:Int} {vW:Value} {t:Tr} {ws:List Opn} (h:One w b cl vW t ws) (o:Opn) (hT:OpT o):Calls Tryz.prog 21 #[.pointer (some ⟨b,0,none⟩),.agg #[.int .i64 o.kd,.int .u32 o.cl,.int .u32 o.ck,.int .u32 o.st,.int .u64 o.rf,.int .i32 o.ch]] w fun e w'=>(∃ n:Int,e=.returned (.int .i64 n))∧∃ v' t' ws',One w' b cl v' t' ws'∧(v'.ownBlock=vW.ownBlock∨∃ g,v'.ownBlock=some g∧w.heap.size≤g)∧But (fun x=>x=b∨vW.ownBlock=some x) w w':=by
 obtain ⟨ss,top,vK,B,ok,hH⟩:=h
 refine (rAdd_any b cl ss top vW vK t ws o w B ok.by' hT).mono ?_
 rintro e w' ⟨rfl,top',v',B',e1,k⟩
 have hl:=addM_list (o:=o) ok
 exact ⟨⟨_,rfl⟩,v',_,_,⟨ss,top',vK,B',by rw [hl.2.1,hl.2.2];exact addN_ok ok,addM_H hH ok⟩,e1,k⟩
structure Pair (w W:World) (b1 b2:Nat) (c1 c2:Int) (v1 v2:Value) (t1 t2:Tr) (s1 s2:List Opn):Prop where
 one:One W b1 c1 v1 t1 s1
 two:One W b2 c2 v2 t2 s2
 ne:b1≠b2
 apart:∀ g,v1.ownBlock=some g→v2.ownBlock≠some g
 below:Below w.heap.size w W
 f1:w.heap.size≤b1∧∀ g,v1.ownBlock=some g→w.heap.size≤g
 f2:w.heap.size≤b2∧∀ g,v2.ownBlock=some g→w.heap.size≤g
theorem Pair.swap {w W:World} {b1 b2:Nat} {c1 c2:Int} {v1 v2:Value} {t1 t2:Tr} {s1 s2:List Opn} (h:Pair w W b1 b2 c1 c2 v1 v2 t1 t2 s1 s2):Pair w W b2 b1 c2 c1 v2 v1 t2 t1 s2 s1:=⟨h.two,h.one,h.ne.symm,fun g e q=>h.apart g q e,h.below,h.f2,h.f1⟩
theorem Pair.kept {w W W2:World} {b1 b2:Nat} {c1 c2:Int} {v1 v2:Value} {t1 t2:Tr} {s1 s2:List Opn} (h:Pair w W b1 b2 c1 c2 v1 v2 t1 t2 s1 s2) (hb:Below W.heap.size W W2):Pair w W2 b1 b2 c1 c2 v1 v2 t1 t2 s1 s2:=⟨h.one.below hb,h.two.below hb,h.ne,h.apart,h.below.trans (hb.mono h.below.size),h.f1,h.f2⟩
theorem Pair.add {w W:World} {b1 b2:Nat} {c1 c2:Int} {v1 v2:Value} {t1 t2:Tr} {s1 s2:List Opn} (h:Pair w W b1 b2 c1 c2 v1 v2 t1 t2 s1 s2) (o:Opn) (hT:OpT o):Calls Tryz.prog 21 #[.pointer (some ⟨b1,0,none⟩),.agg #[.int .i64 o.kd,.int .u32 o.cl,.int .u32 o.ck,.int .u32 o.st,.int .u64 o.rf,.int .i32 o.ch]] W fun e w'=>(∃ n:Int,e=.returned (.int .i64 n))∧∃ v' t' s',Pair w w' b1 b2 c1 c2 v' v2 t' t2 s' s2:=by
 refine (h.one.add o hT).mono ?_
 rintro e w' ⟨he,v',t',s',h1,hv,k⟩
 have hs:=h.below.size
 have l2:∀ g,v2.ownBlock=some g→g<W.heap.size:=fun g e=>by
  obtain ⟨_,_,_,B,_⟩:=h.two
  exact (World.ownsRow.lt B.own g e).2
 refine ⟨he,v',t',s',h1,h.two.other h.one k h.ne.symm (fun g e q=>h.apart g q e),h.ne,fun g e q=>?_,⟨k.os.trans h.below.os,k.tape.trans h.below.tape,k.output.trans h.below.output,Nat.le_trans hs k.size,fun i hi=>(k.block i (by omega) fun q=>?_).trans (h.below.block i hi)⟩,⟨h.f1.1,fun g e=>?_⟩,h.f2⟩
 ·rcases hv with hv|⟨g',e',l'⟩
  ·exact h.apart g (hv▸e) q
  ·rw [e'] at e;cases e;have:=l2 g q;omega
 ·rcases q with q|q
  ·have:=h.f1.1;omega
  ·have:=h.f1.2 _ q;omega
 ·rcases hv with hv|⟨g',e',l'⟩
  ·exact h.f1.2 g (hv▸e)
  ·rw [e'] at e;cases e;omega
def Take0 (b:Nat) (st cl ss:Int) (vK:Value) (t2:Tr) (w w':World):Prop:=∃ top,RowIs w' b 118 7 (rep7 st cl top (.slice none 0 0) ss vK)∧IsTr w' top t2∧But (fun x=>x=b) w w'
theorem take0_any (b:Nat) (st cl ss:Int) (top vK:Value) (t:Tr) (o:Opn) (w:World) (h:RowIs w b 118 7 (rep7 st cl top (.slice none 0 0) ss vK)) (hI:IsTr w top t) (ht:t.T) (ho:KeyT o) (hE:Env w) (hs:(t.with o (rkOf o.key)).size≤1000000) :
  Calls Tryz.prog 98 #[.pointer (some ⟨b,2,none⟩),.agg #[.int .i64 o.kd,.int .u32 o.cl,.int .u32 o.ck,.int .u32 o.st,.int .u64 o.rf,.int .i32 o.ch]] w fun e w'=>e=.returned (.tuple #[])∧Take0 b st cl ss vK (t.with o (rkOf o.key)) w w':=by
 obtain ⟨p0,rfl⟩:=hI.ptr
 have HW:Hid (∀ W,Below w.heap.size w W→Calls Tryz.prog 169 #[.agg #[.pointer p0],.agg #[.int .i64 o.kd,.int .u32 o.cl,.int .u32 o.ck,.int .u32 o.st,.int .u64 o.rf,.int .i32 o.ch]] W fun e w'=>(∃ p,e=.returned (.agg #[p])∧IsTr w' p (t.with o (rkOf o.key)))∧Below W.heap.size W w'):=fun W hW=>sWith_any o ho t _ W (hI.below hW) ht (hE.below hW)
 have hbl:=h.lt
 have hbn:b≠w.heap.size:=by omega
 generalize t.with o (rkOf o.key)=t2' at *
 have HS:Hid (t2'.size≤1000000):=hs
 obtain ⟨vW,hvW⟩:∃ vW:Value,vW=.slice none 0 0:=⟨_,rfl⟩
 rw [← hvW] at h
 have HD0:Hid ((RowIs (w.alloc (.cells #[.int .i64 o.kd,.int .u32 o.cl,.int .u32 o.ck,.int .u32 o.st,.int .u64 o.rf,.int .i32 o.ch] 43)).drew b 118 7 (rep7 st cl (.pointer p0) vW ss vK)∧Below w.heap.size w (w.alloc (.cells #[.int .i64 o.kd,.int .u32 o.cl,.int .u32 o.ck,.int .u32 o.st,.int .u64 o.rf,.int .i32 o.ch] 43)).drew)∧RowIs (w.alloc (.cells #[.int .i64 o.kd,.int .u32 o.cl,.int .u32 o.ck,.int .u32 o.st,.int .u64 o.rf,.int .i32 o.ch] 43)).drew w.heap.size 43 6 (opV o)):=⟨⟨(h.alloc _).drew,(below1' _ _).drew⟩,RowIs.drew (RowIs.last (w:=w) (n:=6) (f:=opV o) (cs:=#[.int .i64 o.kd,.int .u32 o.cl,.int .u32 o.ck,.int .u32 o.st,.int .u64 o.rf,.int .i32 o.ch]) rfl rfl)⟩
 clear h hI ht ho hE hs
 go_enter Tryz.func98,Tryz.ntmps98
 go_wp2_with fail
 refine wp_region_held_drew (S:=fun W=>RowIs W w.heap.size 43 6 (opV o)) (by kernel_rfl) HD0.out.2 (fun hHeld=>?_)
 generalize World.drew _=wD at hHeld HD0 ⊢
 have HD:=HD0.out.1
 have HD:Hid (RowIs wD b 118 7 (rep7 st cl (.pointer p0) vW ss vK)∧Below w.heap.size w wD):=HD
 clear HD0
 refine wpAnyH_take (i:=0) (oi:={ dst:=some 5,op:=_,type:=_,pos:=_,after:=_,guard:=_ }) rfl (by kernel_rfl) (by kernel_rfl) (by kernel_rfl) (fun _ _ _ h=>h) (Or.inl ⟨by rfl,fun w _=>by go_simp;rfl⟩) hHeld ?_
 simp only [Act.put,List.setIfInBounds_toArray,List.set_cons_zero,List.set_cons_succ]
 refine wpAnyH_take (i:=1) (oi:={ dst:=some 6,op:=_,type:=_,pos:=_,after:=_,guard:=_ }) rfl (by kernel_rfl) (by kernel_rfl) (by kernel_rfl) (fun _ _ _ h=>h) (Or.inl ⟨by rfl,fun w _=>by go_simp;rfl⟩) hHeld ?_
 simp only [Act.put,List.setIfInBounds_toArray,List.set_cons_zero,List.set_cons_succ]
 refine wpAnyH_take (i:=2) (oi:={ dst:=some 7,op:=_,type:=_,pos:=_,after:=_,guard:=_ }) rfl (by kernel_rfl) (by kernel_rfl) (by kernel_rfl) (fun _ _ _ h=>h) (Or.inl ⟨by rfl,fun w _=>by go_simp;rfl⟩) hHeld ?_
 simp only [Act.put,List.setIfInBounds_toArray,List.set_cons_zero,List.set_cons_succ]
 refine wpAnyH_take (i:=3) (oi:={ dst:=some 8,op:=_,type:=_,pos:=_,after:=_,guard:=_ }) rfl (by kernel_rfl) (by kernel_rfl) (by kernel_rfl) (fun _ _ _ h=>h) (Or.inl ⟨by rfl,fun w _=>by go_simp;rfl⟩) hHeld ?_
 simp only [Act.put,List.setIfInBounds_toArray,List.set_cons_zero,List.set_cons_succ]
 refine wpAnyH_take (i:=5) (oi:={ dst:=some 10,op:=_,type:=_,pos:=_,after:=_,guard:=_ }) rfl (by kernel_rfl) (by kernel_rfl) (by kernel_rfl) (fun _ _ _ h=>h) (Or.inl ⟨by rfl,fun w hS=>by obtain ⟨a0,a1,a2,a3,a4,a5⟩:=boxCells hS;go_simp;rfl⟩) hHeld ?_
 simp only [Act.put,List.setIfInBounds_toArray,List.set_cons_zero,List.set_cons_succ]
 refine wpAnyH_ready (rs:=[4]) (by kernel_rfl) (by simp) (AllReadyH.cons (o:={ dst:=some 9,op:=_,type:=_,pos:=_,after:=_,guard:=_ }) rfl (fun K hK=>?_) AllReadyH.nil)
 have q3:wD.cell? ⟨b,3,none⟩=some (.pointer p0):=HD.out.1.cell (j:=3) (by omega)
 go_simp
 clear q3
 refine hK.out _ _ hHeld (fun hHeld=>?_)
 clear hK K
 refine wpAnyH_ready (rs:=[6]) (by kernel_rfl) (by simp) (AllReadyH.cons (o:={ dst:=some 11,op:=_,type:=_,pos:=_,after:=_,guard:=_ }) rfl (fun K hK=>?_) AllReadyH.nil)
 go_simp
 refine (HW.out _ HD.out.2).mono ?_
 rintro e w2 ⟨⟨p2,rfl,hp2⟩,hb2⟩
 obtain ⟨p2,rfl⟩:=hp2.ptr
 have R2:=HD.out.1.below hb2 HD.out.1.lt
 have t2:w2.cell? ⟨b,3,none⟩=some (.pointer p0):=R2.cell (j:=3) (by omega)
 have f2:w2.frozen? ⟨b,3,none⟩=false:=R2.free 3
 have H2:Hid (RowIs w2 b 118 7 (rep7 st cl (.pointer p0) vW ss vK)∧IsTr w2 (.pointer p2) t2'∧Below wD.heap.size wD w2):=⟨R2,hp2,hb2⟩
 have HB2:=hHeld.below hb2 hHeld.lt
 refine hK.out _ _ HB2 (fun hHeld=>?_)
 clear hK K R2 hp2 hb2 HB2
 refine wpAnyH_take (i:=7) (oi:={ dst:=some 12,op:=_,type:=_,pos:=_,after:=_,guard:=_ }) rfl (by kernel_rfl) (by kernel_rfl) (by kernel_rfl) (fun _ _ _ h=>h) (Or.inl ⟨by rfl,fun w _=>by go_simp;rfl⟩) hHeld ?_
 simp only [Act.put,List.setIfInBounds_toArray,List.set_cons_zero,List.set_cons_succ]
 refine wpAnyH_take (i:=8) (oi:={ dst:=some 13,op:=_,type:=_,pos:=_,after:=_,guard:=_ }) rfl (by kernel_rfl) (by kernel_rfl) (by kernel_rfl) (fun _ _ _ h=>h) (Or.inl ⟨by rfl,fun w _=>by go_simp;rfl⟩) hHeld ?_
 simp only [Act.put,List.setIfInBounds_toArray,List.set_cons_zero,List.set_cons_succ]
 refine wpAnyH_ready (rs:=[9]) (by kernel_rfl) (by simp) (AllReadyH.cons (o:={ dst:=none,op:=_,type:=_,pos:=_,after:=_,guard:=_ }) rfl (fun K hK=>?_) AllReadyH.nil)
 go_simp
 refine hK.out _ _ (hHeld.setOther (a:=⟨b,3,none⟩) (fun e=>hbn e) _) (fun hHeld=>?_)
 clear hK K t2 f2
 refine wpAnyH_done (by kernel_rfl) ?_ _
 have h3:RowIs (w2.setCell ⟨b,3,none⟩ (.pointer p2)) b 118 7 (rep7 st cl (.pointer p2) vW ss vK):=rep_top H2.out.1 _
 have H3:Hid (RowIs (w2.setCell ⟨b,3,none⟩ (.pointer p2)) b 118 7 (rep7 st cl (.pointer p2) vW ss vK)∧IsTr (w2.setCell ⟨b,3,none⟩ (.pointer p2)) (.pointer p2) t2'∧But (fun x=>x=b) w (w2.setCell ⟨b,3,none⟩ (.pointer p2))):=⟨h3,isTr_but H2.out.1 (by decide) (But.set b 3 _) H2.out.2.1,((But.below HD.out.2).trans (But.below H2.out.2.2)).trans (But.set b 3 _)⟩
 clear h3 H2 HD hHeld
 generalize World.setCell w2 _ _=w4 at H3 ⊢
 subst hvW
 have HF:Hid (∀ W,Below w4.heap.size w4 W→Calls Tryz.prog 97 #[.pointer (some ⟨b,2,none⟩)] W fun e w'=>e=.returned (.bool (decide (120≤t2'.size)))∧Below W.heap.size W w'):=fun W hW=>isFull_any b st cl ss _ _ vK t2' W (H3.out.1.below hW H3.out.1.lt) (H3.out.2.1.below hW) HS.out
 have HX:Hid (∀ W,Calls Tryz.prog 170 #[.slice none 0 0,.func (.func 96) #[.pointer (some ⟨b,2,none⟩)] #[]] W fun e w'=>e=.returned (.int .i64 (-1))∧Below W.heap.size W w'):=fun W=>ixf_any b (fun _=>false) none 0 [] W (Or.inl rfl) (by decide) (fun o ho=>by cases ho)
 go_wp2_with fail
 go_loopw [4] (fun _ wr=>wr=w4) (fun _ _=>0)
 case atStart=>rfl
 case round=>
  obtain rfl:=hrel
  generalize hfu:decide (120≤t2'.size)=fu at *
  cases fu
  ·go_wp2_with (first
    | (go_at_call 97;refine (HF.out _ (Below.refl _ _)).mono ?_;rintro e w5 ⟨rfl,hb5⟩;have c4:w5.cell? ⟨b,4,none⟩=some (.slice none 0 0):=(H3.out.1.below hb5 H3.out.1.lt).cell (j:=4) (by omega))
    | (go_at_call 170;refine (HX.out _).mono ?_;rintro e w6 ⟨rfl,hb6⟩))
   refine bodyPost_ret (results_none rfl _ _ _) rfl ?_
   have hb:=hb5.trans (hb6.mono hb5.size)
   exact ⟨rfl,_,H3.out.1.below hb H3.out.1.lt,H3.out.2.1.below hb,H3.out.2.2.trans (But.below hb)⟩
  ·go_wp2_with (go_at_call 97;refine (HF.out _ (Below.refl _ _)).mono ?_;rintro e w5 ⟨rfl,hb5⟩)
   go_end0
   exact ⟨rfl,_,H3.out.1.below hb5 H3.out.1.lt,H3.out.2.1.below hb5,H3.out.2.2.trans (But.below hb5)⟩
theorem write0_any (b:Nat) (st cl ss:Int) (vK:Value) (rf ch:Int) (w:World) (h:RowIs w b 118 7 (rep7 st cl (.pointer none) (.slice none 0 0) ss vK)) (hcl:1≤cl∧cl≤1048575) (hE:Env w) :
  Calls Tryz.prog 155 #[.pointer (some ⟨b,2,none⟩),.agg #[.int .i64 1,.int .u32 0,.int .u32 0,.int .u32 0,.int .u64 rf,.int .i32 ch]] w fun e w'=>e=.returned (.tuple #[.agg #[.int .i64 1,.int .u32 cl,.int .u32 1,.int .u32 1,.int .u64 rf,.int .i32 ch],.int .i64 0])∧Take0 b st cl ss vK (Tr.nil.with ⟨1,cl,1,1,rf,ch⟩ (rkOf (cl*1048576+1))) w w':=by
 have hW0:=WrS.new w ⟨1,0,0,0,rf,ch⟩ h
 have hbl:=h.lt
 have HO:Hid (∀ W,Below w.heap.size w W→Calls Tryz.prog 100 #[.agg #[.pointer none]] W fun e w'=>(∃ s,e=.returned s∧OwnO w' W.heap.size s [])∧Below W.heap.size W w'):=fun W hW=>sOps_any .nil _ W rfl (by decide)
 have HF:Hid (∀ W,RowIs W b 118 7 (rep7 st cl (.pointer none) (.slice none 0 0) ss vK)→Calls Tryz.prog 97 #[.pointer (some ⟨b,2,none⟩)] W fun e w'=>e=.returned (.bool false)∧Below W.heap.size W w'):=fun W hW=>isFull_any b st cl ss _ _ vK .nil W hW rfl (by decide)
 have HS:Hid (∀ W,Calls Tryz.prog 223 #[.int .u32 0,.int .u32 0] W fun e w'=>e=.returned (.bool false)∧w'=W):=fun W=>isSpent_any 0 0 W
 have HWt:Hid (∀ W,RowIs W b 118 7 (rep7 st cl (.pointer none) (.slice none 0 0) ss vK)→Calls Tryz.prog 95 #[.pointer (some ⟨b,2,none⟩),.int .u64 (cl*1048576+1)] W fun e w'=>e=.returned (.tuple #[.int .i64 0,.bool false])∧Below W.heap.size W w'):=fun W hW=>(waitsAt_any b st cl ss _ vK none 0 [] (cl*1048576+1) W hW (Or.inl rfl) (by decide) List.Pairwise.nil (fun o ho=>by cases ho)).mono fun e w' q=>⟨q.1.elim fun i r=>by
  have:i=0:=Nat.le_zero.1 r.1.le
  subst this
  exact r.2,q.2⟩
 have HT:Hid (∀ W,Below w.heap.size w W→RowIs W b 118 7 (rep7 st cl (.pointer none) (.slice none 0 0) ss vK)→Calls Tryz.prog 98 #[.pointer (some ⟨b,2,none⟩),.agg #[.int .i64 1,.int .u32 cl,.int .u32 1,.int .u32 1,.int .u64 rf,.int .i32 ch]] W fun e w'=>e=.returned (.tuple #[])∧Take0 b st cl ss vK (Tr.nil.with ⟨1,cl,1,1,rf,ch⟩ (rkOf (cl*1048576+1))) W w'):=fun W hW hR=>take0_any b st cl ss _ vK .nil ⟨1,cl,1,1,rf,ch⟩ W hR rfl trivial ⟨⟨by show (0:Int)≤cl;omega,by show cl<4294967296;omega⟩,⟨by show (0:Int)≤1;decide,by show (1:Int)<4294967296;decide⟩⟩ (hE.below hW) (by show (1:Nat)≤1000000;decide)
 have HK:Hid ((0≤cl∧cl<4294967296)∧(0≤(1:Int)∧(1:Int)<4294967296)):=⟨by omega,by decide⟩
 generalize Tr.nil.with ⟨1,cl,1,1,rf,ch⟩ (rkOf (cl*1048576+1))=t2 at *
 have HW0:Hid (WrS w _ b st cl ss (.pointer none) (.slice none 0 0) vK ⟨1,0,0,0,rf,ch⟩):=hW0
 clear h hE hW0
 go_enter Tryz.func155,Tryz.ntmps155
 go_wp2_with fail
 refine wp_region_held_drew (S:=fun W=>WrS w W b st cl ss (.pointer none) (.slice none 0 0) vK ⟨1,0,0,0,rf,ch⟩) (by kernel_rfl) (HW0.out.kept (Below.refl _ _).drew) (fun hHeld=>?_)
 clear HW0
 generalize World.drew _=wD at hHeld ⊢
 refine wpAnyH_take (i:=0) (oi:={ dst:=some 11,op:=_,type:=_,pos:=_,after:=_,guard:=_ }) rfl (by kernel_rfl) (by kernel_rfl) (by kernel_rfl) (fun _ _ _ h=>h) (Or.inl ⟨by rfl,fun w _=>by go_simp;rfl⟩) hHeld ?_
 simp only [Act.put,List.setIfInBounds_toArray,List.set_cons_zero,List.set_cons_succ]
 refine wpAnyH_take (i:=1) (oi:={ dst:=some 12,op:=_,type:=_,pos:=_,after:=_,guard:=_ }) rfl (by kernel_rfl) (by kernel_rfl) (by kernel_rfl) (fun _ _ _ h=>h) (Or.inl ⟨by rfl,fun w _=>by go_simp;rfl⟩) hHeld ?_
 simp only [Act.put,List.setIfInBounds_toArray,List.set_cons_zero,List.set_cons_succ]
 refine wpAnyH_take (i:=2) (oi:={ dst:=some 13,op:=_,type:=_,pos:=_,after:=_,guard:=_ }) rfl (by kernel_rfl) (by kernel_rfl) (by kernel_rfl) (fun _ _ _ h=>h) (Or.inl ⟨by rfl,fun w _=>by go_simp;rfl⟩) hHeld ?_
 simp only [Act.put,List.setIfInBounds_toArray,List.set_cons_zero,List.set_cons_succ]
 refine wpAnyH_take (i:=3) (oi:={ dst:=some 14,op:=_,type:=_,pos:=_,after:=_,guard:=_ }) rfl (by kernel_rfl) (by kernel_rfl) (by kernel_rfl) (fun _ _ _ h=>h) (Or.inl ⟨by rfl,fun w hS=>by have q:=WrS.c3 hS;go_simp;rfl⟩) hHeld ?_
 simp only [Act.put,List.setIfInBounds_toArray,List.set_cons_zero,List.set_cons_succ]
 refine wpAnyH_take (i:=5) (oi:={ dst:=some 16,op:=_,type:=_,pos:=_,after:=_,guard:=_ }) rfl (by kernel_rfl) (by kernel_rfl) (by kernel_rfl) (fun _ _ _ h=>h) (Or.inl ⟨by rfl,fun w _=>by go_simp;rfl⟩) hHeld ?_
 simp only [Act.put,List.setIfInBounds_toArray,List.set_cons_zero,List.set_cons_succ]
 refine wpAnyH_take (i:=6) (oi:={ dst:=some 17,op:=_,type:=_,pos:=_,after:=_,guard:=_ }) rfl (by kernel_rfl) (by kernel_rfl) (by kernel_rfl) (fun _ _ _ h=>h) (Or.inl ⟨by rfl,fun w _=>by go_simp;rfl⟩) hHeld ?_
 simp only [Act.put,List.setIfInBounds_toArray,List.set_cons_zero,List.set_cons_succ]
 refine wpAnyH_take (i:=7) (oi:={ dst:=some 18,op:=_,type:=_,pos:=_,after:=_,guard:=_ }) rfl (by kernel_rfl) (by kernel_rfl) (by kernel_rfl) (fun _ _ _ h=>h) (Or.inl ⟨by rfl,fun w _=>by go_simp;rfl⟩) hHeld ?_
 simp only [Act.put,List.setIfInBounds_toArray,List.set_cons_zero,List.set_cons_succ]
 refine wpAnyH_take (i:=8) (oi:={ dst:=some 19,op:=_,type:=_,pos:=_,after:=_,guard:=_ }) rfl (by kernel_rfl) (by kernel_rfl) (by kernel_rfl) (fun _ _ _ h=>h) (Or.inl ⟨by rfl,fun w hS=>by have q:=WrS.c2 hS;go_simp;rfl⟩) hHeld ?_
 simp only [Act.put,List.setIfInBounds_toArray,List.set_cons_zero,List.set_cons_succ]
 refine wpAnyH_ready (rs:=[4]) (by kernel_rfl) (by simp) (AllReadyH.cons (o:={ dst:=some 15,op:=_,type:=_,pos:=_,after:=_,guard:=_ }) rfl (fun K hK=>?_) AllReadyH.nil)
 go_simp
 refine (HO.out _ hHeld.below).mono ?_
 rintro e w2 ⟨⟨s2,rfl,ho2⟩,hb2⟩
 obtain ⟨a2,n2,rfl,-⟩:=own_viewN (own0 ho2)
 have HL:Hid (∀ W,Below w2.heap.size w2 W→Calls Tryz.prog 222 #[.slice a2 0 n2,.int .u32 cl] W fun e w'=>e=.returned (.tuple #[.int .u32 0,.int .u32 0])∧Below W.heap.size W w'):=fun W hW=>last_any cl [] a2 n2 W (Or.inl rfl) (by decide)
 refine hK.out _ _ (hHeld.kept hb2) (fun hHeld=>?_)
 clear hK K hb2 ho2
 refine wpAnyH_ready (rs:=[9]) (by kernel_rfl) (by simp) (AllReadyH.cons (o:={ dst:=some 20,op:=_,type:=_,pos:=_,after:=_,guard:=_ }) rfl (fun K hK=>?_) AllReadyH.nil)
 go_simp
 refine (HL.out _ (Below.refl _ _)).mono ?_
 rintro e w3 ⟨rfl,hb3⟩
 refine hK.out _ _ (hHeld.kept hb3) (fun hHeld=>?_)
 clear hK K hb3 HL
 refine wpAnyH_take (i:=10) (oi:={ dst:=some 10,op:=_,type:=_,pos:=_,after:=_,guard:=_ }) rfl (by kernel_rfl) (by kernel_rfl) (by kernel_rfl) (fun _ _ _ h=>h) (Or.inl ⟨by rfl,fun w _=>by go_simp;rfl⟩) hHeld ?_
 simp only [Act.put,List.setIfInBounds_toArray,List.set_cons_zero,List.set_cons_succ]
 refine wpAnyH_take (i:=11) (oi:={ dst:=some 21,op:=_,type:=_,pos:=_,after:=_,guard:=_ }) rfl (by kernel_rfl) (by kernel_rfl) (by kernel_rfl) (fun _ _ _ h=>h) (Or.inl ⟨by rfl,fun w _=>by go_simp;rfl⟩) hHeld ?_
 simp only [Act.put,List.setIfInBounds_toArray,List.set_cons_zero,List.set_cons_succ]
 refine wpAnyH_take (i:=12) (oi:={ dst:=some 22,op:=_,type:=_,pos:=_,after:=_,guard:=_ }) rfl (by kernel_rfl) (by kernel_rfl) (by kernel_rfl) (fun _ _ _ h=>h) (Or.inl ⟨by rfl,fun w _=>by go_simp;rfl⟩) hHeld ?_
 simp only [Act.put,List.setIfInBounds_toArray,List.set_cons_zero,List.set_cons_succ]
 refine wpAnyH_ready (rs:=[13]) (by kernel_rfl) (by simp) (AllReadyH.cons (o:={ dst:=some 6,op:=_,type:=_,pos:=_,after:=_,guard:=_ }) rfl (fun K hK=>?_) AllReadyH.nil)
 go_simp
 refine hK.out _ _ hHeld (fun hHeld=>?_)
 clear hK K
 refine wpAnyH_ready (rs:=[14]) (by kernel_rfl) (by simp) (AllReadyH.cons (o:={ dst:=some 7,op:=_,type:=_,pos:=_,after:=_,guard:=_ }) rfl (fun K hK=>?_) AllReadyH.nil)
 go_simp
 refine hK.out _ _ hHeld (fun hHeld=>?_)
 clear hK K
 refine wpAnyH_done (by kernel_rfl) ?_ _
 clear HO
 go_wp2_with (first
  | (go_at_call 97;refine (HF.out _ hHeld.row).mono ?_;rintro e w4 ⟨rfl,hb4⟩;have hH4:=hHeld.kept hb4;obtain ⟨q0,q1,q2,q3,q4,q5⟩:=boxCells hH4.box;have f1:=hH4.box.free 1;have f2:=hH4.box.free 2;have f3:=hH4.box.free 3;have cc2:=hH4.c2;have H4:Hid (WrS w w4 b st cl ss (.pointer none) (.slice none 0 0) vK ⟨1,0,0,0,rf,ch⟩):=hH4;clear hH4 hb4)
  | (go_at_call 223;refine (HS.out _).mono ?_;rintro e w5 ⟨rfl,hw5⟩;obtain rfl:=hw5.symm))
 have H5:Hid (WrS w (((w4.setCell ⟨w.heap.size,1,none⟩ (.int .u32 cl)).setCell ⟨w.heap.size,2,none⟩ (.int .u32 1)).setCell ⟨w.heap.size,3,none⟩ (.int .u32 1)) b st cl ss (.pointer none) (.slice none 0 0) vK ⟨1,cl,1,1,rf,ch⟩):=H4.out.put hbl cl 1 1
 clear H4 q0 q1 q2 q3 q4 q5 f1 f2 f3 cc2 hHeld
 generalize ((w4.setCell ⟨w.heap.size,1,none⟩ (.int .u32 cl)).setCell ⟨w.heap.size,2,none⟩ (.int .u32 1)).setCell ⟨w.heap.size,3,none⟩ (.int .u32 1)=w6 at H5 ⊢
 refine (pKeyOf_any _ _ _ _ _ _ HK.out.1 HK.out.2 _).mono ?_
 rintro e w7 ⟨rfl,hb7⟩
 have H7:Hid (WrS w w7 b st cl ss (.pointer none) (.slice none 0 0) vK ⟨1,cl,1,1,rf,ch⟩):=H5.out.kept hb7
 clear H5 hb7
 go_wp2_with (first
  | (go_at_call 95;refine (HWt.out _ H7.out.row).mono ?_;rintro e w8 ⟨rfl,hb8⟩;have hH8:=H7.out.kept hb8;obtain ⟨q0,q1,q2,q3,q4,q5⟩:=boxCells hH8.box;have H8:Hid (WrS w w8 b st cl ss (.pointer none) (.slice none 0 0) vK ⟨1,cl,1,1,rf,ch⟩):=hH8;clear hH8 hb8)
  | (go_at_call 98;refine (HT.out _ H8.out.below H8.out.row).mono ?_;rintro e w9 ⟨rfl,tp,hr9,ht9,hb9⟩;have R9:RowIs w9 w.heap.size 43 6 (opV ⟨1,cl,1,1,rf,ch⟩):=(hb9.block _ H8.out.box.lt (fun e=>by omega)).trans H8.out.box;have R10:RowIs w9 (w.heap.size+1) 43 6 (opV o0):=(hb9.block _ H8.out.res.lt (fun e=>by omega)).trans H8.out.res;obtain ⟨z0,z1,z2,z3,z4,z5⟩:=boxCells R9;have H9:Hid (RowIs w9 b 118 7 (rep7 st cl tp (.slice none 0 0) ss vK)∧IsTr w9 tp t2∧But (fun x=>x=b) w w9):=⟨hr9,ht9,(But.below H8.out.below).trans hb9⟩;clear hr9 ht9 hb9 q0 q1 q2 q3 q4 q5)
  | (refine wpList_store_row rfl 43 (.tmp 4) (.tmp 64) rfl (w.heap.size+1) (rowOf 6 (opV ⟨1,cl,1,1,rf,ch⟩)) rfl rfl _ _ R10 (by rw [rowOf_size];exact infoOp6) (by rw [rowOf_size,rowOf_size]) (opV_one _) ?_))
 exact bodyPost_ret (results_cell_tmp Tryz.results155 _ _ (w.heap.size+1) 43 _ (0,0) _ _ rfl rfl (R10.setRow (opV ⟨1,cl,1,1,rf,ch⟩)) Tryz.underlying43 rfl (by rw [rowOf_size];exact infoOp6)) rfl ⟨rfl,tp,H9.out.1.setRowOther (by omega) _,isTr_set R10 (by decide) _ H9.out.2.1,H9.out.2.2.putRow (Nat.le_succ _) _⟩
theorem tellL_nil (n:Nat) (g:List Int) (ref:Int):tellL n [] g ref=[]:=by
 cases n with
 | zero=>rfl
 | succ n=>rfl
theorem tellable_nil:Tellable []:=by
 refine ⟨by decide,fun o h=>(by cases h),fun o h=>(by cases h),fun o h=>(by cases h),fun o h=>(by cases h),fun o h=>(by cases h),fun xs hp _=>?_⟩
 obtain rfl:xs=[]:=List.Perm.eq_nil hp
 rw [tellL_nil];decide
theorem told0_any (a:Option Addr) (cap:Nat) (w:World):Calls Tryz.prog 153 #[.slice a 0 cap] w fun e w'=>(∃ a' c',e=.returned (.slice a' 0 c'))∧Below w.heap.size w w':=
 (told_any a cap [] w (Or.inl rfl) tellable_nil sortU_nil).mono fun e w' h=>by
  obtain ⟨⟨v,xs,rfl,hp,_,ho⟩,hb⟩:=h
  obtain rfl:xs=[]:=List.Perm.eq_nil hp
  rw [tellL_nil] at ho
  obtain ⟨a',c',rfl,-⟩:=own_viewN (own0 ho)
  exact ⟨⟨a',c',rfl⟩,hb⟩
theorem bIns0_any (b:Nat) (st cl ss:Int) (vK:Value) (ch:Int) (w:World) (h:RowIs w b 118 7 (rep7 st cl (.pointer none) (.slice none 0 0) ss vK)) (hcl:1≤cl∧cl≤1048575) (hch:∀ W,Calls Tryz.prog 154 #[.int .i32 ch] W fun e w'=>e=.returned (.bool true)∧w'=W) (hE:Env w) :
  Calls Tryz.prog 87 #[.pointer (some ⟨b,2,none⟩),.int .i64 0,.int .i32 ch] w fun e w'=>e=.returned (.tuple #[.agg #[.int .i64 1,.int .u32 cl,.int .u32 1,.int .u32 1,.int .u64 0,.int .i32 ch],.int .i64 0])∧Take0 b st cl ss vK (Tr.nil.with ⟨1,cl,1,1,0,ch⟩ (rkOf (cl*1048576+1))) w w':=by
 have hbl:=h.lt
 have HO:Hid (∀ W,Below w.heap.size w W→Calls Tryz.prog 100 #[.agg #[.pointer none]] W fun e w'=>(∃ s,e=.returned s∧OwnO w' W.heap.size s [])∧Below W.heap.size W w'):=fun W hW=>sOps_any .nil _ W rfl (by decide)
 have HW:Hid (∀ W,Below w.heap.size w W→Calls Tryz.prog 155 #[.pointer (some ⟨b,2,none⟩),.agg #[.int .i64 1,.int .u32 0,.int .u32 0,.int .u32 0,.int .u64 0,.int .i32 ch]] W fun e w'=>e=.returned (.tuple #[.agg #[.int .i64 1,.int .u32 cl,.int .u32 1,.int .u32 1,.int .u64 0,.int .i32 ch],.int .i64 0])∧Take0 b st cl ss vK (Tr.nil.with ⟨1,cl,1,1,0,ch⟩ (rkOf (cl*1048576+1))) W w'):=fun W hW=>write0_any b st cl ss vK 0 ch W (h.below hW h.lt) hcl (hE.below hW)
 have HC:Hid (∀ W,Calls Tryz.prog 154 #[.int .i32 ch] W fun e w'=>e=.returned (.bool true)∧w'=W):=hch
 have h0:Below w.heap.size w (w.alloc (.cells #[.int .i64 0,.int .u32 0,.int .u32 0,.int .u32 0,.int .u64 0,.int .i32 0] 43)):=below1' _ _
 have c3:(w.alloc (.cells #[.int .i64 0,.int .u32 0,.int .u32 0,.int .u32 0,.int .u64 0,.int .i32 0] 43)).cell? ⟨b,3,none⟩=some (.pointer none):=(h.alloc _).cell (j:=3) (by omega)
 have r0:RowIs (w.alloc (.cells #[.int .i64 0,.int .u32 0,.int .u32 0,.int .u32 0,.int .u64 0,.int .i32 0] 43)) w.heap.size 43 6 (opV o0):=RowIs.last rfl rfl
 have H0:Hid (Below w.heap.size w (w.alloc (.cells #[.int .i64 0,.int .u32 0,.int .u32 0,.int .u32 0,.int .u64 0,.int .i32 0] 43))∧RowIs (w.alloc (.cells #[.int .i64 0,.int .u32 0,.int .u32 0,.int .u32 0,.int .u64 0,.int .i32 0] 43)) w.heap.size 43 6 (opV o0)):=⟨h0,r0⟩
 generalize Tr.nil.with ⟨1,cl,1,1,0,ch⟩ (rkOf (cl*1048576+1))=t2 at *
 clear h hE hch h0 r0
 go_enter Tryz.func87,Tryz.ntmps87
 go_wp2_with (first
  | (go_at_call 100;refine (HO.out _ H0.out.1).mono ?_;rintro e w1 ⟨⟨s,rfl,ho⟩,hb1⟩;obtain ⟨a1,c1,rfl,-⟩:=own_viewN (own0 ho);clear ho)
  | (go_at_call 153;refine (told0_any a1 c1 _).mono ?_;rintro e w2 ⟨⟨a2,c2,rfl⟩,hb2⟩)
  | (go_at_call 154;refine (HC.out _).mono ?_;rintro e w3 ⟨rfl,rfl⟩)
  | (go_at_call 155;have hb12:=hb1.trans (hb2.mono hb1.size);have hB2:=H0.out.1.trans (hb12.mono H0.out.1.size);refine (HW.out _ hB2).mono ?_;rintro e w4 ⟨rfl,tp,hr4,ht4,hb4⟩;have R4:RowIs w4 w.heap.size 43 6 (opV o0):=(hb4.block _ (H0.out.2.below hb12 H0.out.2.lt).lt (fun e=>by omega)).trans (H0.out.2.below hb12 H0.out.2.lt);have H4:Hid (RowIs w4 b 118 7 (rep7 st cl tp (.slice none 0 0) ss vK)∧IsTr w4 tp t2∧But (fun x=>x=b) w w4):=⟨hr4,ht4,(But.below hB2).trans hb4⟩;clear hr4 ht4 hb4)
  | (refine wpList_store_row rfl 43 (.tmp 6) (.tmp 42) rfl w.heap.size (rowOf 6 (opV ⟨1,cl,1,1,0,ch⟩)) rfl rfl _ _ R4 (by rw [rowOf_size];exact infoOp6) (by rw [rowOf_size,rowOf_size]) (opV_one _) ?_))
 exact bodyPost_ret (results_cell_tmp Tryz.results87 _ _ w.heap.size 43 _ (0,0) _ _ rfl rfl (R4.setRow (opV ⟨1,cl,1,1,0,ch⟩)) Tryz.underlying43 rfl (by rw [rowOf_size];exact infoOp6)) rfl ⟨rfl,tp,H4.out.1.setRowOther (by omega) _,isTr_set R4 (by decide) _ H4.out.2.1,H4.out.2.2.putRow (Nat.le_refl _) _⟩
theorem rIns0_any (b:Nat) (cl ss:Int) (vK:Value) (ch:Int) (w:World) (h:RowIs w b 118 7 (rep7 0 cl (.pointer none) (.slice none 0 0) ss vK)) (hcl:1≤cl∧cl≤1048575) (hch:okChar ch=true) (hE:Env w) (hbE:15≤b) :
  Calls Tryz.prog 45 #[.pointer (some ⟨b,0,none⟩),.int .i64 0,.int .i32 ch] w fun e w'=>e=.returned (.tuple #[.agg #[.int .i64 1,.int .u32 cl,.int .u32 1,.int .u32 1,.int .u64 0,.int .i32 ch],.int .i64 0])∧Take0 b 0 cl ss vK (Tr.nil.with ⟨1,cl,1,1,0,ch⟩ (rkOf (cl*1048576+1))) w w':=by
 have hbl:=h.lt
 have c0:w.cell? ⟨b,0,none⟩=some (.int .i32 0):=h.cell (j:=0) (by omega)
 have f0:=h.free 0
 have a0:(w.alloc (.cells #[.int .i64 0,.int .u32 0,.int .u32 0,.int .u32 0,.int .u64 0,.int .i32 0] 43)).cell? ⟨b,0,none⟩=some (.int .i32 0):=(h.alloc _).cell (j:=0) (by omega)
 have g0:=(h.alloc (.cells #[.int .i64 0,.int .u32 0,.int .u32 0,.int .u32 0,.int .u64 0,.int .i32 0] 43)).free 0
 have hz:(w.setCell ⟨b,0,none⟩ (.int .i32 1)).heap.size=w.heap.size:=by simp [World.setCell]
 have h1:=(rep_lock h).alloc (.cells #[.int .i64 0,.int .u32 0,.int .u32 0,.int .u32 0,.int .u64 0,.int .i32 0] 43)
 have b1:But (fun x=>x=b) w ((w.setCell ⟨b,0,none⟩ (.int .i32 1)).alloc (.cells #[.int .i64 0,.int .u32 0,.int .u32 0,.int .u32 0,.int .u64 0,.int .i32 0] 43)):=(But.set b 0 _).trans (But.below (below1' _ _))
 have r1:RowIs ((w.setCell ⟨b,0,none⟩ (.int .i32 1)).alloc (.cells #[.int .i64 0,.int .u32 0,.int .u32 0,.int .u32 0,.int .u64 0,.int .i32 0] 43)) w.heap.size 43 6 (opV o0):=RowIs.last (w:=w.setCell ⟨b,0,none⟩ (.int .i32 1)) (n:=6) (f:=opV o0) (cs:=#[.int .i64 0,.int .u32 0,.int .u32 0,.int .u32 0,.int .u64 0,.int .i32 0]) hz.symm rfl
 have HI:Hid (Calls _ _ _ _ _):=bIns0_any b 1 cl ss vK ch _ h1 hcl (fun W=>by have:=pIsChar_any ch W;rwa [hch] at this) (hE.but b1 (fun x e=>by subst e;exact hbE) (by omega))
 have H1:Hid (But (fun x=>x=b) w ((w.setCell ⟨b,0,none⟩ (.int .i32 1)).alloc (.cells #[.int .i64 0,.int .u32 0,.int .u32 0,.int .u32 0,.int .u64 0,.int .i32 0] 43))∧RowIs ((w.setCell ⟨b,0,none⟩ (.int .i32 1)).alloc (.cells #[.int .i64 0,.int .u32 0,.int .u32 0,.int .u32 0,.int .u64 0,.int .i32 0] 43)) w.heap.size 43 6 (opV o0)):=⟨b1,r1⟩
 generalize Tr.nil.with ⟨1,cl,1,1,0,ch⟩ (rkOf (cl*1048576+1))=t2 at *
 clear h h1 hE hch b1 r1 hbE
 go_enter_defers Tryz.func45,Tryz.ntmps45
 go_wp2_with (first
  | (go_at_call 49;refine (lock_free muLib ⟨b,0,none⟩ _ a0 g0).mono ?_;rintro e w' ⟨rfl,rfl⟩)
  | (go_at_call 87;refine HI.out.mono ?_;rintro e w2 ⟨rfl,tp,hr2,ht2,hb2⟩;have R2:RowIs w2 w.heap.size 43 6 (opV o0):=(hb2.block _ H1.out.2.lt (fun e=>by omega)).trans H1.out.2;have H2:Hid (RowIs w2 b 118 7 (rep7 1 cl tp (.slice none 0 0) ss vK)∧IsTr w2 tp t2∧But (fun x=>x=b) w w2):=⟨hr2,ht2,H1.out.1.trans hb2⟩;clear hr2 ht2 hb2)
  | (refine wpList_store_row rfl 43 (.tmp 6) (.tmp 21) rfl w.heap.size (rowOf 6 (opV ⟨1,cl,1,1,0,ch⟩)) rfl rfl _ _ R2 (by rw [rowOf_size];exact infoOp6) (by rw [rowOf_size,rowOf_size]) (opV_one _) ?_))
 have R3:=R2.setRow (opV ⟨1,cl,1,1,0,ch⟩)
 have h3:RowIs (w2.setRow w.heap.size (rowOf 6 (opV ⟨1,cl,1,1,0,ch⟩))) b 118 7 (rep7 1 cl tp (.slice none 0 0) ss vK):=H2.out.1.setRowOther (by omega) _
 refine leaves_cons (f:=50) (args:=#[.pointer (some ⟨b,0,none⟩)]) (by simp) (by simp [go_sem]) ?_
 refine (unlock_deferred muLib ⟨b,0,none⟩ .returning _ (h3.cell (j:=0) (by omega)) (h3.free 0)).mono ?_
 rintro e u' w'' ⟨rfl,rfl,rfl⟩
 have R4:=R3.setOther (a:=⟨b,0,none⟩) (fun e=>by have:b=w.heap.size:=e;omega) (.int .i32 0)
 exact ⟨_,results_cell_tmp Tryz.results45 _ _ w.heap.size 43 _ (0,0) _ _ rfl rfl R4 Tryz.underlying43 rfl (by rw [rowOf_size];exact infoOp6),rfl,tp,rep_unlock h3,isTr_but h3 (by decide) (But.set b 0 _) (isTr_set R2 (by decide) _ H2.out.2.1),(H2.out.2.2.putRow (Nat.le_refl _) _).trans (But.set b 0 _)⟩
theorem below_but {B b:Nat} {w w1 w2:World} (h:Below B w w1) (hb:But (fun x=>x=b) w1 w2) (hB:B≤b) (hs:B≤w1.heap.size):Below B w w2:=
 ⟨hb.os.trans h.os,hb.tape.trans h.tape,hb.output.trans h.output,Nat.le_trans h.size hb.size,fun k hk=>(hb.block k (by omega) (by omega)).trans (h.block k hk)⟩
theorem tellL_one (n:Nat) (o:Opn) (h0:o.rf=0) (hk:o.key≠0):tellL (n+1) [o] [] 0=[o]:=by
 have e1:∀ m,tellL m [o] [] o.key=[]:=fun m=>by
  cases m with
  | zero=>rfl
  | succ m=>
   have:hangs [o] o.key=[]:=by unfold hangs;rw [List.filter_cons_of_neg (by rw [h0];simp;exact fun e=>hk e.symm)];rfl
   rw [tellL,this];rfl
 have e2:hangs [o] 0=[o]:=by unfold hangs;rw [List.filter_cons_of_pos (by simp [h0])];rfl
 rw [tellL,e2]
 simp [e1]
theorem one_text (o:Opn) (hk1:o.kd=1) (h0:o.rf=0) (hk:o.key≠0) (hcc:ccT o) (hkb:o.key<1152921504606846976) (hst:0≤o.st∧o.st<1073741824) (hch:-2147483648≤o.ch∧o.ch≤2147483647):TextOk [o]∧∀ e,StrP [o] e→e=.returned (.string ⟨(Lib.encodeRune o.ch).toArray⟩):=by
 have i1:insOf [o]=[o]:=by unfold insOf;rw [List.filter_cons_of_pos (by simp [hk1])];rfl
 have g1:goneOf [o]=[]:=by unfold goneOf;rw [List.filter_cons_of_neg (by simp [hk1])];rfl
 have m1:∀ x,x∈[o]→x=o:=fun x hx=>List.mem_singleton.1 hx
 refine ⟨⟨⟨by simp,fun x hx=>m1 x hx▸hcc,fun x hx=>m1 x hx▸hkb,fun x hx=>m1 x hx▸hst,fun x hx=>by rw [m1 x hx,h0];exact Int.le_refl _,fun x hx y hy e=>?_,fun xs hp _=>?_⟩,by rw [g1];exact sortU_nil,fun x hx=>m1 x hx▸hch⟩,fun e h=>?_⟩
 ·rw [i1] at hx hy
  rw [m1 x hx,m1 y hy,h0] at e
  exact absurd e.symm hk
 ·rw [i1] at hp
  obtain rfl:=List.perm_singleton.1 hp
  rw [g1,show (1073741824:Nat)=1073741823+1 from rfl,tellL_one _ _ h0 hk];simp
 ·obtain ⟨xs,hp,_,rfl⟩:=h
  rw [i1] at hp
  obtain rfl:=List.perm_singleton.1 hp
  rw [g1,show (1073741824:Nat)=1073741823+1 from rfl,tellL_one _ _ h0 hk]
  simp [strOf]
theorem known_any (w:World) (hE:Env w) (hG:15≤w.heap.size):Calls Tryz.prog 17 #[] w fun e w'=>e=.returned (.bool true)∧Below w.heap.size w w':=by
 have HN:Hid (Calls Tryz.prog 20 #[.int .u32 7] w fun e w'=>(∃ b,e=.returned (.tuple #[.pointer (some ⟨b,0,none⟩),.int .i64 0])∧w.heap.size≤b∧RowIs w' b 118 7 (rep7 0 7 (.pointer none) (.slice none 0 0) 0 (.slice none 0 0)))∧Below w.heap.size w w'):=(new_any 7 w).mono fun e w' h=>by
  obtain ⟨h1,h2⟩:=h
  unfold NewP at h1
  rw [if_pos ⟨by decide,by decide⟩] at h1
  exact ⟨h1,h2⟩
 have HE:Hid (Env w∧15≤w.heap.size):=⟨hE,hG⟩
 obtain ⟨q1,q2⟩:=one_text ⟨1,7,1,1,0,120⟩ rfl rfl (by decide) ⟨by decide,by decide⟩ (by decide) (by decide) (by decide)
 have hL:(Tr.nil.with ⟨1,7,1,1,0,120⟩ (rkOf (7*1048576+1))).list=[⟨1,7,1,1,0,120⟩]:=rfl
 have HI:Hid (∀ W b,RowIs W b 118 7 (rep7 0 7 (.pointer none) (.slice none 0 0) 0 (.slice none 0 0))→Env W→15≤b→Calls Tryz.prog 45 #[.pointer (some ⟨b,0,none⟩),.int .i64 0,.int .i32 120] W fun e w'=>e=.returned (.tuple #[.agg #[.int .i64 1,.int .u32 7,.int .u32 1,.int .u32 1,.int .u64 0,.int .i32 120],.int .i64 0])∧Take0 b 0 7 0 (.slice none 0 0) (Tr.nil.with ⟨1,7,1,1,0,120⟩ (rkOf (7*1048576+1))) W w'):=fun W b hR hE hb=>rIns0_any b 7 0 _ 120 W hR (by decide) (by decide) hE hb
 generalize Tr.nil.with ⟨1,7,1,1,0,120⟩ (rkOf (7*1048576+1))=t2 at *
 have HT:Hid (∀ W b tp,RowIs W b 118 7 (rep7 0 7 tp (.slice none 0 0) 0 (.slice none 0 0))→IsTr W tp t2→Calls Tryz.prog 26 #[.pointer (some ⟨b,0,none⟩)] W fun e w'=>e=.returned (.string ⟨#[120]⟩)∧RowIs w' b 118 7 (rep7 0 7 tp (.slice none 0 0) 0 (.slice none 0 0))∧But (fun x=>x=b) W w'):=fun W b tp hR hI=>(rText_any b 7 0 tp _ _ t2 W hR hI (by rw [hL];exact q1)).mono fun e w' h=>by
  obtain ⟨h1,h2,h3⟩:=h
  rw [hL] at h1
  exact ⟨q2 e h1,h2,h3⟩
 have HO:Hid (∀ W b tp,RowIs W b 118 7 (rep7 0 7 tp (.slice none 0 0) 0 (.slice none 0 0))→IsTr W tp t2→Calls Tryz.prog 23 #[.pointer (some ⟨b,0,none⟩)] W fun e w'=>(∃ a c,e=.returned (.slice a 1 c))∧But (fun x=>x=b) W w'):=fun W b tp hR hI=>(rOps_any b 7 0 tp _ _ t2 W hR hI (by rw [hL];decide)).mono fun e w' h=>by
  obtain ⟨⟨s,rfl,ho⟩,h2,h3⟩:=h
  rw [hL] at ho
  obtain ⟨a,c,rfl,-⟩:=own_viewN (own0 ho)
  exact ⟨⟨a,c,rfl⟩,h3⟩
 clear hE q1 q2 hL
 go_enter Tryz.func17,Tryz.ntmps17
 go_wp2_with (first
  | (go_at_call 20;refine HN.out.mono ?_;rintro e w1 ⟨⟨b,rfl,hb,hr⟩,hb1⟩;have H1:Hid (RowIs w1 b 118 7 (rep7 0 7 (.pointer none) (.slice none 0 0) 0 (.slice none 0 0))∧Below w.heap.size w w1∧w.heap.size≤b):=⟨hr,hb1,hb⟩;clear hr hb1)
  | (go_at_call 45;refine (HI.out _ _ H1.out.1 (HE.out.1.below H1.out.2.1) (by have:=HE.out.2;omega)).mono ?_;rintro e w2 ⟨rfl,tp,hr2,ht2,hb2⟩;have H2:Hid (RowIs (w2.alloc (.cells #[.int .i64 1,.int .u32 7,.int .u32 1,.int .u32 1,.int .u64 0,.int .i32 120] 43)) b 118 7 (rep7 0 7 tp (.slice none 0 0) 0 (.slice none 0 0))∧IsTr (w2.alloc (.cells #[.int .i64 1,.int .u32 7,.int .u32 1,.int .u32 1,.int .u64 0,.int .i32 120] 43)) tp t2∧Below w.heap.size w (w2.alloc (.cells #[.int .i64 1,.int .u32 7,.int .u32 1,.int .u32 1,.int .u64 0,.int .i32 120] 43))):=⟨hr2.alloc _,ht2.below (below1' _ _),by have q:=below_but H1.out.2.1 hb2 H1.out.2.2 H1.out.2.1.size;exact q.alloc q.size _⟩;clear hr2 ht2 hb2)
  | (go_at_call 26;refine (HT.out _ _ tp H2.out.1 H2.out.2.1).mono ?_;rintro e w3 ⟨rfl,hr3,hb3⟩;have H3:Hid (RowIs w3 b 118 7 (rep7 0 7 tp (.slice none 0 0) 0 (.slice none 0 0))∧IsTr w3 tp t2∧Below w.heap.size w w3):=⟨hr3,isTr_but H2.out.1 (by decide) hb3 H2.out.2.1,below_but H2.out.2.2 hb3 H1.out.2.2 H2.out.2.2.size⟩;clear hr3 hb3)
  | (go_at_call 23;refine (HO.out _ _ tp H3.out.1 H3.out.2.1).mono ?_;rintro e w4 ⟨⟨a4,c4,rfl⟩,hb4⟩))
 go_ret
 exact ⟨rfl,below_but H3.out.2.2 hb4 H1.out.2.2 H3.out.2.2.size⟩
theorem kSame_any (xs ys:List Opn) (a b:Option Addr) (c d:Nat) (w:World) (hx:OpsIs w a xs) (hy:OpsIs w b ys) (hn:xs.length≤1000000):Calls Tryz.prog 24 #[.slice a xs.length c,.slice b ys.length d] w fun e w'=>(∃ r:Bool,e=.returned (.bool r)∧(r=true↔xs=ys))∧Below w.heap.size w w':=by
 by_cases hl:xs.length=ys.length
 ·have hl':((xs.length:Int) != (ys.length:Int))=false:=by simp [hl]
  have HX:=hid2 hx
  have HY:=hid2 hy
  have HL:=hid2 hl
  clear hx hy hl
  go_enter Tryz.func24,Tryz.ntmps24
  go_wp2_with fail
  go_loopw [5] (fun iv wr=>∃ i:Nat,i≤xs.length∧iv=.int .i64 i∧Hid (∀ j,j<i→getO xs[j]?=getO ys[j]?)∧Hid (Below w.heap.size w wr)) (fun iv _=>xs.length-(intOf iv).toNat)
  case atStart=>exact ⟨0,Nat.zero_le _,rfl,hid2 (fun j h=>absurd h (Nat.not_lt_zero _)),hid2 (Below.refl _ _)⟩
  case round=>
   obtain ⟨i,hi,rfl,HA,HB⟩:=hrel
   by_cases hlt:i<xs.length
   ·have li:(i:Int)<(xs.length:Int):=by omega
    have hlt2:i<ys.length:=by rw [← HL.out];exact hlt
    have li2:(i:Int)<(ys.length:Int):=by omega
    rcases HX.out with h0|⟨g,off,rfl,hO⟩
    ·subst h0;cases hlt
    rcases HY.out with h0|⟨g2,off2,rfl,hO2⟩
    ·subst h0;cases hlt2
    have HC:Hid (∀ W,Below w.heap.size w W→OpsAt W g off xs∧OpsAt W g2 off2 ys):=fun W h=>⟨hO.below h,hO2.below h⟩
    clear hO hO2
    have HR:Hid (∀ W,Below w.heap.size w W→Below w.heap.size w W.drew):=fun W h=>h.drew
    go_wp2_with fail
    refine wp_region_held_drew (S:=fun W=>Below w.heap.size w W) (by kernel_rfl) (HR.out _ HB.out) (fun hHeld=>?_)
    generalize World.drew _=wD at hHeld ⊢
    clear HB HR
    refine tk0 0 17 ?_
    refine tk0 1 18 ?_
    refine tk0 2 19 ?_
    refine tkf 3 20 (fun W h=>(HC.out W h).1.cells hlt) ?_
    refine tk0 4 21 ?_
    refine tk0 5 22 ?_
    refine tk0 6 23 ?_
    refine tkf 7 24 (fun W h=>(HC.out W h).2.cells hlt2) ?_
    by_cases he:xs[i]=ys[i]
    ·refine tk 8 25 rfl (Or.inl ⟨by rfl,fun w _=>by rw [he];go_simp;rfl⟩) hHeld ?_
     simp only [Act.put,ls1,ls2,ls3]
     refine wdn ?_
     have HE:=hid2 he
     clear he
     go_wp2_with fail
     go_roundw
     case rel=>exact ⟨i+1,hlt,by go_num,hid2 (fun j h=>by
      rcases Nat.lt_or_ge j i with q|q
      ·exact HA.out j q
      ·obtain rfl:j=i:=by omega
       rw [List.getElem?_eq_getElem hlt,List.getElem?_eq_getElem hlt2];exact HE.out),hid2 hHeld⟩
     case measure=>simp [intOf];omega
    ·refine tk 8 25 (v:=.bool true) rfl (Or.inl ⟨by rfl,fun w _=>by go_simp;intro h1 h2 h3 h4 h5 h6;exact he (opn_ext h1 h2 h3 h4 h5 h6)⟩) hHeld ?_
     simp only [Act.put,ls1,ls2,ls3]
     refine wdn ?_
     have HE:Hid (xs≠ys):=fun e=>he (by subst e;rfl)
     clear he
     go_wp2_with fail
     go_ret
     exact ⟨⟨false,rfl,fun h=>(by cases h),fun h=>absurd h HE.out⟩,hHeld⟩
   ·obtain rfl:i=xs.length:=by omega
    go_wp2_with fail
    go_ret
    exact ⟨⟨true,rfl,fun _=>lists_at HL.out HA.out,fun _=>rfl⟩,HB.out⟩
 ·have hl':((xs.length:Int) != (ys.length:Int))=true:=by simp;omega
  have HL:=hid2 hl
  clear hx hy hl
  go_enter Tryz.func24,Tryz.ntmps24
  go_wp2_with fail
  go_ret
  exact ⟨⟨false,rfl,fun h=>(by cases h),fun h=>absurd (by rw [h]) HL.out⟩,Below.refl _ _⟩
theorem kSum_own {w:World} {B:Nat} {v:Value} {l:List Int} (hE:Env w) (h:OwnB w B v l) (h0:l≠[]) (hb:Byt l) (hl:l.length≤1000):Calls Tryz.prog 68 #[v] w fun e w'=>e=.returned (.agg (rowOf 32 fun n=>.int .u8 (dig (strOfNums l) n)))∧Below w.heap.size w w':=by
 have Hc:=hidE (own_sha hE h h0 hb hl)
 clear hE h h0 hb hl
 generalize strOfNums l=s at *
 have hb0:Below w.heap.size w (w.alloc (.cells (rowOf 32 fun _=>.int .u8 0) 137)):=(Below.refl _ _).alloc (Nat.le_refl _) _
 have hr0:=RowIs.new w 137 32 fun _=>.int .u8 0
 go_enter Tryz.func68,Tryz.ntmps68
 go_wp2_with (first|(go_at_call 117;refine (Hc.out _ hb0).mono ?_;rintro e w7 ⟨rfl,hb7⟩;have hr07:=hr0.below hb7 hr0.lt)|(refine wpList_store_row rfl 137 (.tmp 2) (.tmp 4) rfl w.heap.size _ rfl rfl _ _ hr07 (by rw [rowOf_size];exact info90) (by rw [rowOf_size,rowOf_size]) (ints_one _ _ _) ?_))
 exact bodyPost_ret (v:=.agg (rowOf 32 fun n=>.int .u8 (dig s n))) (results_cell_row Tryz.results68 _ _ w.heap.size 137 _ (0,0) _ rfl (hr07.setRow _) Tryz.underlying137 rfl (by rw [rowOf_size];exact info90)) rfl ⟨rfl,below_setRow' (hb0.trans (hb7.mono hb0.size)) (Nat.le_refl _) _⟩
theorem clash_byt:∀ (x y:Tr),x.W→y.W→∀ p q,clashT x y=some (p,q)→(Byt p∧p.length≤1000)∧(Byt q∧q.length≤1000):=by
 have hH:∀ (x y:Tr) (z:Option (List Int×List Int)),(∀ p q,z=some (p,q)→(Byt p∧p.length≤1000)∧(Byt q∧q.length≤1000))→∀ p q,clashH x y z=some (p,q)→(Byt p∧p.length≤1000)∧(Byt q∧q.length≤1000):=fun x y z hz p q h=>by
  unfold clashH at h
  by_cases h1:x.list=y.list
  ·rw [if_pos h1] at h;cases h
  ·rw [if_neg h1] at h
   by_cases h2:chk (strOfNums x.txt)=chk (strOfNums y.txt)
   ·rw [if_neg (by simp [h2])] at h
    by_cases h3:x.txt=y.txt
    ·rw [if_neg (by simp [h3])] at h
     exact hz p q h
    ·rw [if_pos h3] at h
     cases h
     have:=x.txt_len
     have:=y.txt_len
     exact ⟨⟨x.txt_byt,by omega⟩,y.txt_byt,by omega⟩
   ·rw [if_pos h2] at h;cases h
 intro x
 induction x using Tr.ind with
 | nil=>intro y _ _;unfold clashT;exact hH _ _ _ (fun p q h=>by cases h)
 | node m rk l r ihl ihr=>
  intro y hx hy
  cases y using Tr.cs with
  | nil=>unfold clashT;exact hH _ _ _ (fun p q h=>by cases h)
  | node m' rk' l' r'=>
   unfold clashT
   refine hH _ _ _ fun p q h=>?_
   by_cases hm:m=m'
   ·rw [if_neg (by simp [hm])] at h
    cases hA:clashT l l' with
    | some z=>rw [hA] at h;cases h;exact ihl l' hx.2.1 hy.2.1 _ _ hA
    | none=>rw [hA] at h;exact ihr r' hx.2.2 hy.2.2 _ _ h
   ·rw [if_pos hm] at h
    cases h
    have:=opB_len2 hx.1.1
    have:=opB_len2 hy.1.1
    exact ⟨⟨midB m hx.1.1,by simp;omega⟩,midB m' hy.1.1,by simp;omega⟩
theorem One.ops {w:World} {b:Nat} {cl:Int} {vW:Value} {t:Tr} {ws:List Opn} (h:One w b cl vW t ws):Calls Tryz.prog 23 #[.pointer (some ⟨b,0,none⟩)] w fun e w'=>(∃ s,e=.returned s∧OwnO w' w.heap.size s t.list)∧Below w.heap.size w w':=by
 obtain ⟨ss,top,vK,B,ok,hH⟩:=h
 refine (rOps_any b cl ss top vW vK t w B.row B.tree (by have:=ok.set.len;omega)).mono ?_
 rintro e w' ⟨h1,h2,h3⟩
 exact ⟨h1,same_below h3 B.row h2⟩
theorem okW {o:Opn} (h:o.ok=true):OpW o∧(o.kd=1∨o.kd=2):=⟨okOp_w h (ok_rf h),ok_kinds h⟩
theorem One.root {w:World} {b:Nat} {cl:Int} {vW:Value} {t:Tr} {ws:List Opn} (h:One w b cl vW t ws) (lo hi:Int):Calls Tryz.prog 27 #[.pointer (some ⟨b,0,none⟩),.int .u64 lo,.int .u64 hi] w fun e w'=>e=.returned (.agg #[.int .u8 (dig (strOfNums (t.rng lo hi).txt) 0),.int .u8 (dig (strOfNums (t.rng lo hi).txt) 1),.int .u8 (dig (strOfNums (t.rng lo hi).txt) 2)])∧Below w.heap.size w w':=by
 obtain ⟨ss,top,vK,B,ok,hH⟩:=h
 exact root_any lo hi b cl ss top vW vK t w B.row B.tree B.typ B.env fun x hx=>okW (ok.set.ok x hx)
theorem One.clash {w:World} {b1 b2:Nat} {c1 c2:Int} {v1 v2:Value} {t1 t2:Tr} {s1 s2:List Opn} (h:One w b1 c1 v1 t1 s1) (k:One w b2 c2 v2 t2 s2) (lo hi:Int):Calls Tryz.prog 38 #[.pointer (some ⟨b1,0,none⟩),.pointer (some ⟨b2,0,none⟩),.int .u64 lo,.int .u64 hi] w fun e w'=>(∃ v1 v2,e=.returned (.tuple #[v1,v2])∧ClV w' w.heap.size v1 v2 (clashT (t1.rng lo hi) (t2.rng lo hi)))∧Below w.heap.size w w':=by
 obtain ⟨ss,top,vK,B,ok,hH⟩:=h
 obtain ⟨ss2,top2,vK2,B2,ok2,hH2⟩:=k
 exact rClash_any lo hi b1 b2 c1 ss c2 ss2 top v1 vK top2 v2 vK2 t1 t2 w B.row B.tree B.typ B2.row B2.tree B2.typ B.env (by have:=ok.set.len;omega) (by have:=ok2.set.len;omega) ok.set.by' ok2.set.by' (fun x hx=>okW (ok.set.ok x hx)) fun x hx=>okW (ok2.set.ok x hx)
theorem One.env {w:World} {b:Nat} {cl:Int} {vW:Value} {t:Tr} {ws:List Opn} (h:One w b cl vW t ws):Env w:=by
 obtain ⟨ss,top,vK,B,ok,hH⟩:=h
 exact B.env
theorem One.W {w:World} {b:Nat} {cl:Int} {vW:Value} {t:Tr} {ws:List Opn} (h:One w b cl vW t ws) (lo hi:Int):(t.rng lo hi).W:=by
 obtain ⟨ss,top,vK,B,ok,hH⟩:=h
 exact Tr.W_of fun x hx=>okW (ok.set.ok x (rng_mem hx))
theorem clashes_any {w:World} {b1 b2:Nat} {c1 c2:Int} {v1 v2:Value} {t1 t2:Tr} {s1 s2:List Opn} (h:One w b1 c1 v1 t1 s1) (k:One w b2 c2 v2 t2 s2) (lo hi:Int) (p q:List Int) (hc:clashT (t1.rng lo hi) (t2.rng lo hi)=some (p,q)):Calls Tryz.prog 39 #[.pointer (some ⟨b1,0,none⟩),.pointer (some ⟨b2,0,none⟩),.int .u64 lo,.int .u64 hi] w fun e w'=>e=.returned (.bool true)∧Below w.heap.size w w':=by
 have HC:=hidE (h.clash k lo hi)
 rw [hc] at HC
 have hsp:=clash_spec (t1.rng lo hi) (t2.rng lo hi) (h.W lo hi) (k.W lo hi)
 rw [hc] at hsp
 obtain ⟨-,-,hne,heq⟩:=hsp
 obtain ⟨⟨bp,lp⟩,⟨bq,lq⟩⟩:=clash_byt _ _ (h.W lo hi) (k.W lo hi) p q hc
 have HE:=hidE h.env
 have hs:((strOfNums p).toList==(strOfNums q).toList)=false:=by
  rw [beq_eq_false_iff_ne,ByteArray.toList_eq,ByteArray.toList_eq]
  exact fun h=>hne (son_inj bp bq (ByteArray.ext (Array.toList_inj.1 h)))
 have HP:Hid (∀ W B v,Env W→OwnB W B v p→p≠[]→Calls Tryz.prog 68 #[v] W fun e w'=>e=.returned (.agg (rowOf 32 fun n=>.int .u8 (dig (strOfNums p) n)))∧Below W.heap.size W w'):=fun W B v hE h h0=>kSum_own hE h h0 bp lp
 have HQ:Hid (∀ W B v,Env W→OwnB W B v q→q≠[]→Calls Tryz.prog 68 #[v] W fun e w'=>e=.returned (.agg (rowOf 32 fun n=>.int .u8 (dig (strOfNums q) n)))∧Below W.heap.size W w'):=fun W B v hE h h0=>kSum_own hE h h0 bq lq
 unfold chk at heq
 simp only [List.cons.injEq] at heq
 obtain ⟨e0,e1,e2,-⟩:=heq
 clear hne bp lp bq lq hc h k
 go_enter Tryz.func39,Tryz.ntmps39
 go_wp2_with (first
  | (go_at_call 38;refine HC.out.mono ?_;rintro e w1 ⟨⟨u1,u2,rfl,o1,o2,n1,n2⟩,hb1⟩;have H1:=hidE (And.intro hb1 (And.intro o1 (And.intro o2 (And.intro n1 n2))));clear hb1 o1 o2 n1 n2)
  | (go_at_call 68;have hq:=H2;clear hq;refine (HQ.out _ _ _ (HE.out.below (H1.out.1.trans (H2.out.1.mono H1.out.1.size))) (H1.out.2.2.1.keep H2.out.1) H1.out.2.2.2.2).mono ?_;rintro e w3 ⟨rfl,hb3⟩;have hr3:=RowIs.new w3 137 32 fun _=>.int .u8 0;have hD3:RowIs (World.setRow (w3.alloc (.cells (rowOf 32 fun _=>.int .u8 0) 137)) w3.heap.size (rowOf 32 fun n=>.int .u8 (dig (strOfNums q) n))) w3.heap.size 137 32 (fun n=>.int .u8 (dig (strOfNums q) n)):=hr3.setRow _;have hB3:Below w3.heap.size w3 (World.setRow (w3.alloc (.cells (rowOf 32 fun _=>.int .u8 0) 137)) w3.heap.size (rowOf 32 fun n=>.int .u8 (dig (strOfNums q) n))):=below_setRow' ((Below.refl _ _).alloc (Nat.le_refl _) _) (Nat.le_refl _) _;have hB4:=hb3.trans (hB3.mono hb3.size);have hD2:=H2.out.2.below hB4 H2.out.2.lt;have hB5:=H2.out.1.trans (hB4.mono H2.out.1.size);have q1:=conv_own (H1.out.2.1.keep hB5);have q2:=conv_own (H1.out.2.2.1.keep hB5);have c0:=hD2.cell (show 0<32 by omega);have c1:=hD2.cell (show 1<32 by omega);have c2:=hD2.cell (show 2<32 by omega);have d0:=hD3.cell (show 0<32 by omega);have d1:=hD3.cell (show 1<32 by omega);have d2:=hD3.cell (show 2<32 by omega);have H3:=hidE (H1.out.1.trans (hB5.mono H1.out.1.size));clear hB5 hD2 hB4 hB3 hD3 hb3;rw [← z32lit] at c0 c1 c2 d0 d1 d2 q1 q2)
  | (go_at_call 68;refine (HP.out _ _ _ (HE.out.below H1.out.1) H1.out.2.1 H1.out.2.2.2.1).mono ?_;rintro e w2 ⟨rfl,hb2⟩;have hr2:=RowIs.new w2 137 32 fun _=>.int .u8 0;have H2:Hid (Below w1.heap.size w1 (World.setRow (w2.alloc (.cells (rowOf 32 fun _=>.int .u8 0) 137)) w2.heap.size (rowOf 32 fun n=>.int .u8 (dig (strOfNums p) n)))∧RowIs (World.setRow (w2.alloc (.cells (rowOf 32 fun _=>.int .u8 0) 137)) w2.heap.size (rowOf 32 fun n=>.int .u8 (dig (strOfNums p) n))) w2.heap.size 137 32 (fun n=>.int .u8 (dig (strOfNums p) n))):=⟨below_setRow' (hb2.alloc hb2.size _) hb2.size _,hr2.setRow _⟩;clear hb2)
  | (refine wpList_store_row rfl 137 (.tmp 11) (.tmp 22) rfl w2.heap.size _ rfl rfl _ _ hr2 (by rw [rowOf_size];exact info90) (by rw [rowOf_size,rowOf_size]) (ints_one _ _ _) ?_)
  | (refine wpList_store_row rfl 137 (.tmp 12) (.tmp 24) rfl w3.heap.size _ rfl rfl _ _ hr3 (by rw [rowOf_size];exact info90) (by rw [rowOf_size,rowOf_size]) (ints_one _ _ _) ?_))
 go_ret
 exact ⟨rfl,H3.out⟩
theorem ok_key {o:Opn} (h:o.ok=true):0≤o.key∧o.key<1099511627776:=by
 have hw:=okOp_w h (ok_rf h)
 have:=hw.cl
 have:=hw.ck
 unfold Opn.key
 omega
theorem rng_all {t:Tr} {ws:List Opn} (h:BookOk t.list ws):(t.rng 0 1099511627776).list=t.list:=by
 have h1:=(cut_list 0 t h.set.by').2
 have h2:ByKey (t.cut 0).2.list:=by rw [h1];exact h.set.by'.sublist List.filter_sublist
 unfold Tr.rng
 rw [(cut_list 1099511627776 _ h2).1,h1,List.filter_filter]
 refine List.filter_eq_self.2 fun x hx=>?_
 have:=ok_key (h.set.ok x hx)
 have k1:¬ x.key<0:=by omega
 simp [k1,this.2]
theorem eqChk (a b:ByteArray) (W:World):(Op.equalIn 10000 50 (.agg #[.int .u8 (dig a 0),.int .u8 (dig a 1),.int .u8 (dig a 2)]) (.agg #[.int .u8 (dig b 0),.int .u8 (dig b 1),.int .u8 (dig b 2)])).run Tryz.prog W=.ok (decide (chk a=chk b)) W:=by
 rw [eqDigG]
 congr 1
 unfold chk
 by_cases h1:dig a 0=dig b 0<;>by_cases h2:dig a 1=dig b 1<;>by_cases h3:dig a 2=dig b 2<;>simp [h1,h2,h3]
theorem pair_case {w W:World} {b1 b2:Nat} {c1 c2:Int} {v1 v2:Value} {t1 t2:Tr} {s1 s2:List Opn} (h:Pair w W b1 b2 c1 c2 v1 v2 t1 t2 s1 s2):∃ l0:Bool,(∀ W,(Op.equalIn 10000 50 (.agg #[.int .u8 (dig (strOfNums (t1.rng 0 1099511627776).txt) 0),.int .u8 (dig (strOfNums (t1.rng 0 1099511627776).txt) 1),.int .u8 (dig (strOfNums (t1.rng 0 1099511627776).txt) 2)]) (.agg #[.int .u8 (dig (strOfNums (t2.rng 0 1099511627776).txt) 0),.int .u8 (dig (strOfNums (t2.rng 0 1099511627776).txt) 1),.int .u8 (dig (strOfNums (t2.rng 0 1099511627776).txt) 2)])).run Tryz.prog W=.ok l0 W)∧match clashT (t1.rng 0 1099511627776) (t2.rng 0 1099511627776) with
  | none=>l0=true↔t1.list=t2.list
  | some _=>l0=true∧t1.list≠t2.list:=by
 have hW1:=h.one.W 0 1099511627776
 have hW2:=h.two.W 0 1099511627776
 obtain ⟨_,_,_,-,ok1,hH1⟩:=h.one
 obtain ⟨_,_,_,-,ok2,hH2⟩:=h.two
 have e1:=rng_all ok1
 have e2:=rng_all ok2
 have sp:=clash_spec _ _ hW1 hW2
 refine ⟨_,eqChk _ _,?_⟩
 cases hc:clashT (t1.rng 0 1099511627776) (t2.rng 0 1099511627776) with
 | none=>
  rw [hc] at sp
  unfold ClSp at sp
  rw [e1,e2] at sp
  refine ⟨fun hl=>sp.resolve_right fun k=>k (of_decide_eq_true hl),fun hl=>?_⟩
  have:=Tr.one (hH1.rng 0 1099511627776) (hH2.rng 0 1099511627776) (by rw [e1,e2];exact hl)
  rw [this]
  simp
 | some z=>
  rw [hc] at sp
  obtain ⟨p,q⟩:=z
  obtain ⟨k1,k2,-,-⟩:=sp
  rw [e1,e2] at k1
  exact ⟨decide_eq_true k2,k1⟩
theorem clashing_any (xs ys:List Opn) (a b:Option Addr) (c d:Nat) (w:World) (hx:OpsIs w a xs) (hy:OpsIs w b ys) (hxT:∀ o∈xs,OpT o) (hyT:∀ o∈ys,OpT o) (hxn:xs.length≤140737488355328) (hyn:ys.length≤140737488355328) (hE:Env w) (hg:15≤w.heap.size):Calls Tryz.prog 12 #[.slice a xs.length c,.slice b ys.length d] w fun e w'=>e=.returned (.bool true)∧Below w.heap.size w w':=by
 have HK:=hidE (known_any w hE hg)
 have HX:=hidE (And.intro hx hxT)
 have HY:=hidE (And.intro hy hyT)
 have HE:=hidE (And.intro hE hg)
 clear hx hy hxT hyT hE hg
 go_enter Tryz.func12,Tryz.ntmps12
 go_upto_block 0 with (first
  | (go_at_call 17;refine HK.out.mono ?_;rintro e w1 ⟨rfl,hb1⟩;have H1:=hidE hb1;clear hb1)
  | (go_at_call 20;have hq:=H2;clear hq;refine (new_any 2 _).mono ?_;rintro e w3 ⟨hN,hb3⟩;unfold NewP at hN;rw [if_pos (by decide)] at hN;obtain ⟨b2,rfl,hl2,hr2⟩:=hN;have H3:Hid (Pair w w3 b1 b2 1 2 (.slice none 0 0) (.slice none 0 0) ⟨none⟩ ⟨none⟩ [] []):=⟨One.new (H2.out.2.1.below hb3 H2.out.2.1.lt) (HE.out.1.below (H2.out.1.trans (hb3.mono H2.out.1.size))) (Nat.le_trans HE.out.2 H2.out.2.2),One.new hr2 (HE.out.1.below (H2.out.1.trans (hb3.mono H2.out.1.size))) (Nat.le_trans HE.out.2 (Nat.le_trans H2.out.1.size hl2)),(fun e=>by have:=H2.out.2.1.lt;omega),(fun g e=>by cases e),H2.out.1.trans (hb3.mono H2.out.1.size),⟨H2.out.2.2,fun g e=>by cases e⟩,⟨Nat.le_trans H2.out.1.size hl2,fun g e=>by cases e⟩⟩;clear hb3 hl2 hr2)
  | (go_at_call 20;refine (new_any 1 _).mono ?_;rintro e w2 ⟨hN,hb2⟩;unfold NewP at hN;rw [if_pos (by decide)] at hN;obtain ⟨b1,rfl,hl1,hr1⟩:=hN;have H2:=hidE (And.intro (H1.out.trans (hb2.mono H1.out.size)) (And.intro hr1 (Nat.le_trans H1.out.size hl1)));clear hb2 hl1 hr1))
 go_cut [10] (fun _ wc=>Hid (∃ v1 t1 s1,Pair w wc b1 b2 1 2 v1 (.slice none 0 0) t1 .nil s1 []))
 case first=>
  go_wp2_with fail
  go_loopw [10] (fun iv wr=>∃ i:Nat,i≤60∧iv=.int .i64 i∧Hid (∃ v1 t1 s1,Pair w wr b1 b2 1 2 v1 (.slice none 0 0) t1 .nil s1 [])) (fun iv _=>60-(intOf iv).toNat)
  case atStart=>exact ⟨0,Nat.zero_le _,rfl,hidE ⟨_,_,_,H3.out⟩⟩
  case round=>
   obtain ⟨i,hi,rfl,HP⟩:=hrel
   clear H3 H2 H1 HK HE
   by_cases hlt:i<xs.length
   ·have li:(i:Int)<(xs.length:Int):=by omega
    by_cases h60:i<60
    ·have l60:(i:Int)<60:=by omega
     rcases HX.out.1 with h0|⟨g,off,rfl,hO⟩
     ·subst h0;cases hlt
     obtain ⟨v1,t1,s1,hp⟩:=HP.out
     have HA:=hidE (hp.add xs[i] (HX.out.2 _ (List.getElem_mem hlt)))
     obtain ⟨k0,k1,k2,k3,k4,k5⟩:=(hO.below hp.below).cells hlt
     clear hO hp HP
     go_wp2_with (go_at_call 21;refine HA.out.mono ?_;rintro e w5 ⟨⟨n,rfl⟩,v',t',s',hp5⟩;have H5:=hidE hp5;clear hp5)
     go_roundw
     case rel=>exact ⟨i+1,h60,by go_num,hidE ⟨_,_,_,H5.out⟩⟩
     case measure=>simp [intOf];omega
    ·have l60:¬ (i:Int)<60:=by omega
     go_wp2_with fail
     go_meet
     exact HP
   ·have li:¬ (i:Int)<(xs.length:Int):=by omega
    go_wp2_with fail
    go_meet
    exact HP
 case rest=>
  clear H3 H2 H1 HK
  have HP0:Hid (∃ v1 t1 s1,Pair w wc b1 b2 1 2 v1 (.slice none 0 0) t1 .nil s1 []):=hcut
  clear hcut
  go_upto_block 2 with fail
  go_cut [11] (fun _ wd=>Hid (∃ v1 v2 t1 t2 s1 s2,Pair w wd b1 b2 1 2 v1 v2 t1 t2 s1 s2))
  case first=>
   go_wp2_with fail
   go_loopw [11] (fun iv wr=>∃ i:Nat,i≤60∧iv=.int .i64 i∧Hid (∃ v1 v2 t1 t2 s1 s2,Pair w wr b1 b2 1 2 v1 v2 t1 t2 s1 s2)) (fun iv _=>60-(intOf iv).toNat)
   case atStart=>exact ⟨0,Nat.zero_le _,rfl,hidE (by obtain ⟨v1,t1,s1,h⟩:=HP0.out;exact ⟨_,_,_,_,_,_,h⟩)⟩
   case round=>
    obtain ⟨i,hi,rfl,HP⟩:=hrel
    clear HP0 HE
    by_cases hlt:i<ys.length
    ·have li:(i:Int)<(ys.length:Int):=by omega
     by_cases h60:i<60
     ·have l60:(i:Int)<60:=by omega
      rcases HY.out.1 with h0|⟨g,off,rfl,hO⟩
      ·subst h0;cases hlt
      obtain ⟨v1,v2,t1,t2,s1,s2,hp⟩:=HP.out
      have HA:=hidE (hp.swap.add ys[i] (HY.out.2 _ (List.getElem_mem hlt)))
      obtain ⟨k0,k1,k2,k3,k4,k5⟩:=(hO.below hp.below).cells hlt
      clear hO hp HP
      go_wp2_with (go_at_call 21;refine HA.out.mono ?_;rintro e w5 ⟨⟨n,rfl⟩,v',t',s',hp5⟩;have H5:=hidE hp5.swap;clear hp5)
      go_roundw
      case rel=>exact ⟨i+1,h60,by go_num,hidE ⟨_,_,_,_,_,_,H5.out⟩⟩
      case measure=>simp [intOf];omega
     ·have l60:¬ (i:Int)<60:=by omega
      go_wp2_with fail
      go_meet
      exact HP
    ·have li:¬ (i:Int)<(ys.length:Int):=by omega
     go_wp2_with fail
     go_meet
     exact HP
  case rest=>
   have hP:Hid (∃ v1 v2 t1 t2 s1 s2,Pair w wc b1 b2 1 2 v1 v2 t1 t2 s1 s2):=hcut
   clear hcut HP0 HE HX HY
   obtain ⟨v1,v2,t1,t2,s1,s2,hp⟩:=hP.out
   clear hP
   have HP:=hidE hp
   obtain ⟨l0,hex,hcs⟩:=pair_case hp
   have hl1:t1.list.length≤1000000:=by
    obtain ⟨_,_,_,-,ok1,-⟩:=hp.one
    have:=ok1.set.len
    omega
   clear hp
   have HL1:=hidE hl1
   clear hl1
   have HCl:Hid (∀ W,Pair w W b1 b2 1 2 v1 v2 t1 t2 s1 s2→Calls Tryz.prog 38 #[.pointer (some ⟨b1,0,none⟩),.pointer (some ⟨b2,0,none⟩),.int .u64 0,.int .u64 1099511627776] W fun e w'=>(∃ u1 u2,e=.returned (.tuple #[u1,u2])∧ClV w' W.heap.size u1 u2 (clashT (t1.rng 0 1099511627776) (t2.rng 0 1099511627776)))∧Below W.heap.size W w'):=fun W h=>h.one.clash h.two 0 1099511627776
   have HCc:Hid (∀ W p q,Pair w W b1 b2 1 2 v1 v2 t1 t2 s1 s2→clashT (t1.rng 0 1099511627776) (t2.rng 0 1099511627776)=some (p,q)→Calls Tryz.prog 39 #[.pointer (some ⟨b1,0,none⟩),.pointer (some ⟨b2,0,none⟩),.int .u64 0,.int .u64 1099511627776] W fun e w'=>e=.returned (.bool true)∧Below W.heap.size W w'):=fun W p q h hc=>clashes_any h.one h.two 0 1099511627776 p q hc
   have HR1:Hid (∀ W,Pair w W b1 b2 1 2 v1 v2 t1 t2 s1 s2→Calls Tryz.prog 27 #[.pointer (some ⟨b1,0,none⟩),.int .u64 0,.int .u64 1099511627776] W _):=fun W h=>h.one.root 0 1099511627776
   have HR2:Hid (∀ W,Pair w W b1 b2 1 2 v1 v2 t1 t2 s1 s2→Calls Tryz.prog 27 #[.pointer (some ⟨b2,0,none⟩),.int .u64 0,.int .u64 1099511627776] W _):=fun W h=>h.two.root 0 1099511627776
   generalize strOfNums (t1.rng 0 1099511627776).txt=sx at *
   generalize strOfNums (t2.rng 0 1099511627776).txt=sy at *
   generalize hRR:clashT (t1.rng 0 1099511627776) (t2.rng 0 1099511627776)=RR at *
   clear hRR
   cases RR with
   | none=>
    have HS:=hidE hcs
    clear hcs HCc
    go_wp2_with (first
     | (go_at_call 23;have hq:=G1;clear hq;refine (G1.out.1.two.ops).mono ?_;rintro e w6 ⟨⟨x2,rfl,o2⟩,hb6⟩;have G2:=hidE (And.intro (G1.out.1.kept hb6) (And.intro (ownO_keep G1.out.2 hb6) o2));clear hb6 o2;obtain ⟨ax,cx,rfl,hax⟩:=ownO_ops G2.out.2.1;obtain ⟨ay,cy,rfl,hay⟩:=ownO_ops G2.out.2.2;have G3:=hidE (And.intro hax hay);clear hax hay)
     | (go_at_call 23;refine (HP.out.one.ops).mono ?_;rintro e w5 ⟨⟨x1,rfl,o1⟩,hb5⟩;have G1:=hidE (And.intro (HP.out.kept hb5) o1);clear hb5 o1)
     | (go_at_call 24;refine (kSame_any t1.list t2.list ax ay cx cy w6 G3.out.1 G3.out.2 HL1.out).mono ?_;rintro e w7 ⟨⟨r,rfl,hr⟩,hb7⟩;obtain rfl:l0=r:=Bool.eq_iff_iff.2 (HS.out.trans hr.symm);have G4:=hidE (G2.out.1.kept hb7);clear hb7 hr)
     | (go_at_call 27;have hq:=G5;clear hq;refine (HR2.out _ G5.out).mono ?_;rintro e w9 ⟨rfl,hb9⟩;have G6:=hidE (G5.out.kept hb9);clear hb9)
     | (go_at_call 27;refine (HR1.out _ G4.out).mono ?_;rintro e w8 ⟨rfl,hb8⟩;have G5:=hidE (G4.out.kept hb8);clear hb8)
     | (go_at_call 38;refine (HCl.out _ G6.out).mono ?_;rintro e w10 ⟨⟨u1,u2,rfl,hu1,hu2⟩,hb10⟩;subst hu1 hu2;have G7:=hidE (G6.out.kept hb10);clear hb10))
    go_ret
    exact ⟨by simp,G7.out.below⟩
   | some z=>
    obtain ⟨p,q⟩:=z
    obtain ⟨rfl,hne⟩:=hcs
    have HS:=hidE hne
    clear hne
    go_wp2_with (first
     | (go_at_call 23;have hq:=G1;clear hq;refine (G1.out.1.two.ops).mono ?_;rintro e w6 ⟨⟨x2,rfl,o2⟩,hb6⟩;have G2:=hidE (And.intro (G1.out.1.kept hb6) (And.intro (ownO_keep G1.out.2 hb6) o2));clear hb6 o2;obtain ⟨ax,cx,rfl,hax⟩:=ownO_ops G2.out.2.1;obtain ⟨ay,cy,rfl,hay⟩:=ownO_ops G2.out.2.2;have G3:=hidE (And.intro hax hay);clear hax hay)
     | (go_at_call 23;refine (HP.out.one.ops).mono ?_;rintro e w5 ⟨⟨x1,rfl,o1⟩,hb5⟩;have G1:=hidE (And.intro (HP.out.kept hb5) o1);clear hb5 o1)
     | (go_at_call 24;refine (kSame_any t1.list t2.list ax ay cx cy w6 G3.out.1 G3.out.2 HL1.out).mono ?_;rintro e w7 ⟨⟨r,rfl,hr⟩,hb7⟩;obtain rfl:r=false:=Bool.eq_false_iff.2 fun h=>HS.out (hr.1 h);have G4:=hidE (G2.out.1.kept hb7);clear hb7 hr)
     | (go_at_call 27;have hq:=G5;clear hq;refine (HR2.out _ G5.out).mono ?_;rintro e w9 ⟨rfl,hb9⟩;have G6:=hidE (G5.out.kept hb9);clear hb9)
     | (go_at_call 27;refine (HR1.out _ G4.out).mono ?_;rintro e w8 ⟨rfl,hb8⟩;have G5:=hidE (G4.out.kept hb8);clear hb8)
     | (go_at_call 38;refine (HCl.out _ G6.out).mono ?_;rintro e w10 ⟨⟨u1,u2,rfl,hu1,hu2,hn1,hn2⟩,hb10⟩;have G7:=hidE (G6.out.kept hb10);obtain ⟨g1,k1,rfl,-⟩:=hu1.view hn1;obtain ⟨g2,k2,rfl,-⟩:=hu2.view hn2;have hp0:(0:Int)<(p.length:Int):=(by have:=List.length_pos_iff.2 hn1;omega);clear hb10 hu1 hu2)
     | (go_at_call 39;refine (HCc.out _ p q G7.out rfl).mono ?_;rintro e w11 ⟨rfl,hb11⟩;have G8:=hidE (G7.out.kept hb11);clear hb11))
    go_ret
    exact ⟨by simp,G8.out.below⟩
end Go.Proofs.YtgccjefbedpmpaaGreatDoor

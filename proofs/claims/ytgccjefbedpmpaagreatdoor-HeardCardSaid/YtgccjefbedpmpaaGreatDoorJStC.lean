import Derived.Test.YtgccjefbedpmpaaGreatDoorJStB
import Derived.Deep.CutBlock
namespace Go.Proofs.YtgccjefbedpmpaaGreatDoor
open Go.RowKit
set_option maxRecDepth 100000
set_option maxHeartbeats 8000000
variable {A G l : List Opn} {B b j x : Nat} {W' W2 : World} {X : Nat→Prop} {o : Opn} {rs rs0 : List Rp} {t' : Tr} {v v' va vf vl : Value}
theorem One.frame {w w':World} {cl:Int} {vW:Value} {t:Tr} {ws:List Opn} (h:One w b cl vW t ws) (hb:But X w w') (hX:∀ x,X x→x≠b∧vW.ownBlock≠some x∧(∀ f,¬ RowIs w x 318 9 f)∧15≤x):One w' b cl vW t ws:=by
 obtain ⟨ss,top,vK,B,ok,hH⟩:=h;exact ⟨ss,top,vK,⟨B.row.but hb fun q=>(hX _ q).1 rfl,isTr_gen2 hb (fun g e=>(hX g e).2.2.1) B.tree,kp B.own fun g hg=>hb.block g (qf B.own g hg).2 fun q=>(hX g q).2.1 hg,B.typ,B.wtyp,B.wlen,B.size,B.env.but hb (fun g e=>(hX g e).2.2.2) (by have:=B.row.lt;have:=B.far;omega),B.far,B.wfar⟩,ok,hH⟩
theorem Many.frame {W:World} (h:Many W rs) (hb:But X W W') (hX:∀ x,X x→¬ InR rs x∧(∀ f,¬ RowIs W x 318 9 f)∧15≤x):Many W' rs:=
 ⟨fun r hr=>(h.all r hr).frame hb fun x hx=>⟨fun e=>(hX x hx).1 ⟨r,hr,Or.inl e⟩,fun e=>(hX x hx).1 ⟨r,hr,Or.inr e⟩,(hX x hx).2⟩,h.apart⟩
structure HistS (rs0:List Rp) (w W:World) (G:List Opn) (rs:List Rp) (va:Value) (A:List Opn):Prop where
 many:Many W rs
 moved:Moved rs0 rs w W
 len:rs.length=3
 rep:∀ (j:Nat) (h:j < rs.length),RepOk G rs[j].t.list rs[j].ws rs[j].cl∧rs[j].cl=(j:Int)+1
 hist:Hist G
 own:OwnO W w.heap.size va A
 free:∀ g,va.ownBlock=some g→¬ InR rs g
theorem HistS.below {w W:World} (h:HistS rs0 w W G rs va A) (hb:Bel W W2):HistS rs0 w W2 G rs va A:=
 ⟨h.many.below hb,h.moved.below hb,h.len,h.rep,h.hist,xk h.own hb,h.free⟩
theorem HistS.turn {w W:World} {G':List Opn} (h:HistS rs0 w W G rs va A) (hj:j < rs.length) {os' ws':List Opn} (a:After W W' rs[j].b rs[j].cl rs[j].v os' ws' v' t') (hR:RepOk G' os' ws' rs[j].cl) (hG:Hist G') (hgr:∀ (cl:Int) (os ws:List Opn),cl≠rs[j].cl→RepOk G os ws cl→RepOk G' os ws cl):HistS rs0 w W' G' (rs.set j ⟨rs[j].b,rs[j].cl,v',t',ws'⟩) va A:=by
 obtain ⟨m1,m2⟩:=h.many.put hj a;have hlen:(rs.set j ⟨rs[j].b,rs[j].cl,v',t',ws'⟩).length=rs.length:=ym ..;refine ⟨m1,h.moved.trans m2,hlen.trans h.len,fun k hk=>?_,hG,kp h.own fun g hg=>m2.but.block g (qf h.own g hg).2 (h.free g hg),fun g hg q=>?_⟩
 ·rw [hlen] at hk;rw [List.getElem_set];by_cases e:j=k
  ·rw [if_pos e];subst e;refine ⟨?_,(h.rep j hj).2⟩;show RepOk G' t'.list ws' rs[j].cl;rw [a.list];exact hR
  ·rw [if_neg e];refine ⟨hgr _ _ _ ?_ (h.rep k hk).1,(h.rep k hk).2⟩;have h1:=(h.rep k hk).2;have h2:=(h.rep j hj).2;omega
 ·rcases m2.own g q with k | k
  ·exact h.free g hg k
  ·have:=(qf h.own g hg).2;omega
theorem HistS.wrote {w W:World} (h:HistS rs0 w W G rs va A) (hj:j < rs.length) (hW:Wrote G rs[j].t.list rs[j].ws rs[j].cl o) (a:After W W' rs[j].b rs[j].cl rs[j].v (putK o rs[j].t.list) rs[j].ws v' t'):HistS rs0 w W' (G++[o]) (rs.set j ⟨rs[j].b,rs[j].cl,v',t',rs[j].ws⟩) va A:=
 h.turn hj a hW.rep hW.hist fun _ _ _ hne hr=>hr.grow fun e=>hne (e.symm.trans hW.cl)
theorem HistS.still {w W:World} (h:HistS rs0 w W G rs va A) (hj:j < rs.length) (a:After W W' rs[j].b rs[j].cl rs[j].v rs[j].t.list rs[j].ws v' t'):HistS rs0 w W' G (rs.set j ⟨rs[j].b,rs[j].cl,v',t',rs[j].ws⟩) va A:=
 h.turn hj a (h.rep j hj).1 h.hist fun _ _ _ _ hr=>hr
theorem HistS.added {w W:World} (h:HistS rs0 w W G rs va A) (hj:j < rs.length) (ho:o∈G) (a:After W W' rs[j].b rs[j].cl rs[j].v (addN rs[j].t.list rs[j].ws o).2.1 (addN rs[j].t.list rs[j].ws o).2.2 v' t'):HistS rs0 w W' G (rs.set j ⟨rs[j].b,rs[j].cl,v',t',(addN rs[j].t.list rs[j].ws o).2.2⟩) va A:=
 h.turn hj a ((h.rep j hj).1.add h.hist.len ho) h.hist fun _ _ _ _ hr=>hr
theorem HistS.grown {w W:World} {va':Value} {A':List Opn} (h:HistS rs0 w W G rs va A) (hg0:15≤w.heap.size) (hg:W.grownBy W' va.ownBlock) (hl:va'.ownBlock=va.ownBlock∨va'.ownBlock=some W.heap.size) (ho:OwnO W' w.heap.size va' A'):HistS rs0 w W' G rs va' A':=by
 have hb:But (fun x=>va.ownBlock=some x) W W':=⟨hg.size,hg.os,hg.tape,hg.output,fun i hi hx=>hg.block i hi fun e=>hx e.symm⟩;refine ⟨h.many.frame hb fun x hx=>⟨h.free x hx,Qy h.own (by decide) hx,qi hg0 (qf h.own x hx).1⟩,⟨h.moved.len,h.moved.same,h.moved.own,?_⟩,h.len,h.rep,h.hist,ho,fun g e q=>?_⟩
 ·have s1:=h.moved.but.size;refine ⟨qi s1 hb.size,hb.os.trans h.moved.but.os,hb.tape.trans h.moved.but.tape,hb.output.trans h.moved.but.output,fun i hi hx=>(hb.block i (by omega) fun e=>?_).trans (h.moved.but.block i hi hx)⟩;have:=(qf h.own i e).1;omega
 ·rcases hl with k | k
  ·exact h.free g (k▸e) q
  ·rw [k] at e;cases e;have:=h.many.lt q;omega
def ptrR (rs:List Rp):List Value:=rs.map fun r=>(pt r.b 0)
structure NewS (w W:World) (rs:List Rp) (vl:Value):Prop where
 many:Many W rs
 cl:∀ (j:Nat) (h:j < rs.length),rs[j].cl=(j:Int)+1∧rs[j].t=.nil∧rs[j].ws=[]∧rs[j].v=.slice none 0 0
 far:∀ r∈rs,w.heap.size≤r.b
 own:W.ownsRow w.heap.size 35 1 vl rs.length (ptrR rs)
 below:Bel w W
theorem NewS.free {w W:World} (h:NewS w W rs vl):∀ g,vl.ownBlock=some g→¬ InR rs g:=fun g hg ⟨r,hr,e⟩=>by
 rcases e with e | e
 ·obtain ⟨ss,top,vK,B,-,-⟩:=h.many.all r hr;rcases h.own.2 with ⟨q,-⟩ | ⟨g',cap,cur,q,-,q2,-⟩
  ·rw [q] at hg;cases hg
  ·rw [q] at hg;cases hg;have hb:=B.row;unfold RowIs at hb;rw [← e,q2] at hb;simp only [jx,Obj.cells.injEq] at hb;exact absurd hb.2.1 (by decide)
 ·obtain ⟨j,hj,rfl⟩:=qw.1 hr;rw [(h.cl j hj).2.2.2] at e;cases e
theorem infoP:(Tryz.prog.info? 35).map (fun i=>(i.zero,i.size,i.bytes))=some (some (.pointer none),1,8):=by kernel_rfl
theorem NewS.more {w W W1:World} {vl':Value} {o:Obj} (h:NewS w W rs vl) (hE:Env w) (hg:15≤w.heap.size) (hb:Bel W W1) (hl:W.heap.size≤b) (hr:RowIs W1 b 118 7 (rep7 0 ((rs.length:Int)+1) (.pointer none) (.slice none 0 0) 0 (.slice none 0 0)))
  (ho:W2.ownsRow w.heap.size 35 1 vl' (rs.length+1) (ptrR rs++[(pt b 0)])) (hgr:(W1.alloc o).grownBy W2 vl.ownBlock):NewS w W2 (rs++[⟨b,(rs.length:Int)+1,.slice none 0 0,.nil,[]⟩]) vl':=by
 have s0:=h.below.size;have hb1:Bel W (W1.alloc o):=hb.alloc hb.size o;have hr1:RowIs (W1.alloc o) b 118 7 (rep7 0 ((rs.length:Int)+1) (.pointer none) (.slice none 0 0) 0 (.slice none 0 0)):=hr.below (kq _ _) hr.lt;have hbw:Bel w (W1.alloc o):=h.below.trans (hb1.mono s0);have hE1:Env (W1.alloc o):=hE.below hbw;have m1:=h.many.more hb1 hl hr1 hE1 (by omega);have hbut:But (fun x=>vl.ownBlock=some x) (W1.alloc o) W2:=⟨hgr.size,hgr.os,hgr.tape,hgr.output,fun i hi hx=>hgr.block i hi fun e=>hx e.symm⟩;have own1:=kp h.own fun g hg=>hb1.block g (qf h.own g hg).2;have hlt:∀ g,vl.ownBlock=some g→w.heap.size≤g∧g < W.heap.size:=fun g e=>qf h.own g e;refine ⟨m1.frame hbut fun x hx=>⟨fun ⟨r,hrr,e⟩=>?_,Qy own1 (by decide) hx,qi hg (hlt x hx).1⟩,fun j hj=>?_,fun r hrr=>?_,?_,⟨hgr.os.trans hbw.os,hgr.tape.trans hbw.tape,hgr.output.trans hbw.output,qi hbw.size hgr.size,fun i hi=>(hgr.block i (ql hi hbw.size) fun e=>?_).trans (hbw.block i hi)⟩⟩
 ·rcases zd.1 hrr with q | q
  ·exact h.free x hx ⟨r,q,e⟩
  ·rw [zo.1 q] at e;rcases e with e | e
   ·have:=(hlt x hx).2;have e:x=b:=e;omega
   ·cases e
 ·rw [qe,zp] at hj;rcases zr j rs.length with q | q
  ·rw [jz q];exact h.cl j q
  ·have:j=rs.length:=by omega
   subst this;rw [yu (qb _)];simp
 ·rcases zd.1 hrr with q | q
  ·exact h.far r q
  ·rw [zo.1 q];show w.heap.size≤b;omega
 ·have:ptrR (rs++[(⟨b,(rs.length:Int)+1,.slice none 0 0,.nil,[]⟩:Rp)])=ptrR rs++[(pt b 0)]:=by unfold ptrR;rw [yb];rfl
  rw [this,qe,zp];exact ho
 ·have:=(hlt i e.symm).1;omega
theorem hands_any (w:World) (hE:Env w) (hg:15≤w.heap.size):Cs 18 #[] w fun e w'=>∃ rs vl,e=.returned (.tuple #[vl,.bool true])∧rs.length=3∧NewS w w' rs vl:=by
 obtain ⟨i0,hi,hz0,hz1,hz2⟩:=info_parts infoP;have HE:=kr (qd hE hg);clear hE hg;go_enter Tryz.func18,Tryz.ntmps18;go_wp2_with fail;go_loopw [2,3] (fun vl cv wr=>∃ (c:Nat) (rs:List Rp),c≤3∧cv=U3 ((c:Int)+1)∧rs.length=c∧Hid (NewS w wr rs vl)) (fun _ cv _=>4-(intOf cv).toNat)
 case atStart=>exact ⟨0,[],by decide,rfl,rfl,⟨⟨fun _ h=>(by cases h),fun _ _ h=>(by cases h)⟩,fun _ h=>(by cases h),fun _ h=>(by cases h),⟨rfl,Or.inl ⟨rfl,rfl⟩⟩,qj _ _⟩⟩
 case round=>
  obtain ⟨c,rs,hc,rfl,hlen,HS⟩:=hrel;by_cases h3:c < 3
  ·have l3:(c:Int)+1≤3:=by omega
   have e1:IntKind.u32.wrap ((c:Int)+1+1)=((c+1:Nat):Int)+1:=by rw [IntKind.wrap_u32];omega
   go_wp2_with (first
    | (go_at_call 20;refine (new_any ((c:Int)+1) _).mono ?_;rintro e w1 ⟨hN,hb1⟩;unfold NewP at hN;rw [if_pos ⟨by omega,by omega⟩] at hN;obtain ⟨b,rfl,hl1,hr1⟩:=hN;have H1:=kr (qd hb1 (qd hl1 hr1));clear hb1 hl1 hr1)
    | (at_builtin;refine wpList_append_own_at _ rfl (.tmp 21) (.tmp 23) 29 rfl w.heap.size 35 i0 (.pointer none) 1 8 Tryz.underlying29 hi hz0 hz1 hz2 rfl (by decide) u2 rs.length (ptrR rs) rfl (zg (kp HS.out.own fun g hg=>H1.out.1.block g (qf HS.out.own g hg).2) _) (Ad w1.heap.size 0) 1 1 [(pt b 0)] rfl rfl ?hn (by simp [Value.oneCell']) (by unfold maxLen;omega) (by omega) (qi HS.out.below.size (qi H1.out.1.size (by simp))) ?_;(case hn=>exact cell_one_new _ _ _);intro v2 w2 ho2 hg2 _ hat2;have H2:=kr (HS.out.more HE.out.1 HE.out.2 H1.out.1 H1.out.2.1 (hlen▸H1.out.2.2) ho2 hg2);clear ho2 hg2 hat2))
   go_roundw
   case rel=>exact ⟨c+1,_,h3,by rw [show ((c+1:Nat):Int)=(c:Int)+1 by omega],by rw [qe,hlen];rfl,H2⟩
   case measure=>simp [intOf];omega
  ·have l3:¬ (c:Int)+1≤3:=by omega
   go_wp2_with fail;go_ret2;exact ⟨rs,_,rfl,by omega,HS.out⟩
structure Ed where
 who:Int
 kind:Int
 at':Int
 c:Int
def i64B (x:Int):Prop:=-9223372036854775808≤x∧x≤9223372036854775807
structure EdT (e:Ed):Prop where
 who:i64B e.who
 kind:i64B e.kind
 at':i64B e.at'
 c:i64B e.c
def edV (e:Ed):Nat→Value:=ed4 e.who e.kind e.at' e.c
def EdsIs (w:World) (a:Option Addr) (es:List Ed):Prop:=es=[]∨∃ g off,a=some (Ad g off)∧∀ i (h:i < es.length) j,j < 4→w.cell? ⟨g,off+i*4+j,none⟩=some (edV es[i] j)
theorem HistS.touch {w W:World} (h:HistS rs0 w W G rs va A) (hg:15≤w.heap.size) {f:Nat→Value} (hr:RowIs W x 43 6 f) (hx:w.heap.size≤x) (hn:¬ InR rs x) (hv:va.ownBlock≠some x) (cs:Array Value):HistS rs0 w (W.setRow x cs) G rs va A:=by
 have hb:But (fun y=>y=x) W (W.setRow x cs):=⟨Nat.le_of_eq (by simp [World.setRow]),rfl,rfl,rfl,fun i _ hi=>setRow_other _ _ _ _ hi⟩;refine ⟨h.many.frame hb fun y e=>⟨by rw [e];exact hn,fun f k=>absurd (RowIs.type_eq hr (e▸k)) (by decide),by omega⟩,⟨h.moved.len,h.moved.same,h.moved.own,h.moved.but.setRowS hx cs⟩,h.len,h.rep,h.hist,kp h.own fun g hg=>hb.block g (qf h.own g hg).2 fun e=>hv (e▸hg),h.free⟩
theorem HistS.size {w W:World} (h:HistS rs0 w W G rs va A):w.heap.size≤W.heap.size:=h.moved.but.size
theorem HistS.at_ {w W:World} (h:HistS rs0 w W G rs va A) (hj:j < 3):∃ (h1:j < rs.length) (h0:j < rs0.length),rs[j].b=rs0[j].b∧One W rs[j].b rs[j].cl rs[j].v rs[j].t rs[j].ws:=by
 have h1:j < rs.length:=by rw [h.len];exact hj
 have h0:j < rs0.length:=by rw [← h.moved.len];exact h1
 exact ⟨h1,h0,(h.moved.same j h0 h1).1,h.many.all _ (qn h1)⟩
theorem doesH {w W:World} (h:HistS rs0 w W G rs va G) (hl:G.length < 30) (hj:j < 3) (hb:∀ h0:j < rs0.length,rs0[j].b=b) (e:Ed) (he:EdT e) :
  Cs 46 #[(pt b 0),.agg #[I6 e.who,I6 e.kind,I6 e.at',I6 e.c]] W fun r w'=>∃ (o:Opn) (s:Bool) (G':List Opn) (rs':List Rp),r=.returned (.tuple #[.agg (oC o),.bool s,.bool true])∧HistS rs0 w w' G' rs' va G∧((s=true∧G'=G++[o])∨(s=false∧G'=G))∧But (InR rs) W w'∧∀ x,InR rs' x→InR rs x∨W.heap.size≤x:=by
 obtain ⟨h1,h0,e0,hO⟩:=h.at_ hj;obtain ⟨hR,hc⟩:=h.rep j h1;have eb:rs[j].b=b:=e0.trans (hb h0);have:=does_any hO hR h.hist hl (by omega) e.who e.kind e.at' e.c he.kind he.at' he.c;rw [eb] at this;refine this.mono ?_;rintro r w' (⟨o,rfl,hW,v',t',ha⟩ | ⟨rfl,v',t',ha⟩)
 ·rw [← eb] at ha;obtain ⟨m1,m2⟩:=h.many.put h1 ha;exact ⟨o,true,_,_,rfl,h.wrote h1 hW ha,Or.inl ⟨rfl,rfl⟩,m2.but,m2.own⟩
 ·rw [← eb] at ha;obtain ⟨m1,m2⟩:=h.many.put h1 ha;exact ⟨o0,false,_,_,rfl,h.still h1 ha,Or.inr ⟨rfl,rfl⟩,m2.but,m2.own⟩
theorem okT (hk:o.ok=true):OpT o:=by
 have h:=okOp_w hk (ok_rf hk);exact ⟨by have:=h.kd;omega,by have:=h.cl;omega,by have:=h.ck;omega,by have:=h.st;omega,by have:=h.rf;omega,by have:=h.ch;omega⟩
theorem addH {w W:World} (h:HistS rs0 w W G rs va A) (hj:j < 3) (hb:∀ h0:j < rs0.length,rs0[j].b=b) (o:Opn) (ho:o∈G) :
  Cs 21 #[(pt b 0),.agg (oC o)] W fun r w'=>∃ (n:Int) (rs':List Rp),r=.returned (I6 n)∧HistS rs0 w w' G rs' va A∧But (InR rs) W w'∧∀ x,InR rs' x→InR rs x∨W.heap.size≤x:=by
 obtain ⟨h1,h0,e0,hO⟩:=h.at_ hj;have eb:rs[j].b=b:=e0.trans (hb h0);have:=hO.addL o (okT (h.hist.set.ok o (Qm.2 ho)));rw [eb] at this;refine this.mono ?_;rintro r w' ⟨rfl,v',t',ha⟩;rw [← eb] at ha;obtain ⟨m1,m2⟩:=h.many.put h1 ha;exact ⟨_,_,rfl,h.added h1 ho ha,m2.but,m2.own⟩
theorem opsH {w W:World} (h:HistS rs0 w W G rs va A) (hj:j < 3) (hb:∀ h0:j < rs0.length,rs0[j].b=b) :
  Cs 23 #[(pt b 0)] W fun r w'=>∃ (s:Value) (l:List Opn),r=.returned s∧(∀ x∈l,x∈G)∧l.length≤120∧OwnO w' W.heap.size s l∧Bel W w':=by
 obtain ⟨h1,h0,e0,hO⟩:=h.at_ hj;obtain ⟨hR,hc⟩:=h.rep j h1;have eb:rs[j].b=b:=e0.trans (hb h0);have:=hO.ops;rw [eb] at this;refine this.mono ?_;rintro r w' ⟨⟨s,rfl,ho⟩,hb⟩;exact ⟨s,_,rfl,hR.sub,hR.book.set.len,ho,hb⟩
theorem HistS.cell {w W:World} (h:HistS rs0 w W G rs va A) {a:Addr} (hc:w.cell? a=some v) (hn:¬ InR rs0 a.block):W.cell? a=some v:=
 (qz (h.moved.but.block a.block (block_lt_of_cell hc) hn)).trans hc
theorem op_new (w:World) (cs:List Value):∀ j u,cs[j]?=some u→(w.alloc (.cells cs.toArray 43)).cell? (((Ad w.heap.size 0):Addr).add j)=some u:=by
 intro j u h;rw [addN',q9];exact (cell_of_row _ _ _ _ _ _ (heap_alloc_new w _)).trans (by simpa using h)
theorem own_snoc {w:World} (h:w.ownsRow B 43 6 v (G.length+1) (opCs G++[I6 o.kd,U3 o.cl,U3 o.ck,U3 o.st,U6 o.rf,I3 o.ch])):OwnO w B v (G++[o]):=by
 unfold OwnO;rw [qe,opCs_app];exact h
structure Hear (rs0:List Rp) (w W:World) (G:List Opn) (rs:List Rp) (va:Value) (x:Nat) (e:Ed) (B:Nat) (vf:Value) (l:List Opn):Prop where
 hist:HistS rs0 w W G rs va G
 box:RowIs W x 95 4 (edV e)
 boxN:¬ InR rs x
 own:OwnO W B vf l
 ownN:∀ g,vf.ownBlock=some g→¬ InR rs g
theorem Hear.next {w W:World} {rs':List Rp} {e:Ed} (h:Hear rs0 w W G rs va x e B vf l) (hh:HistS rs0 w W' G rs' va G) (hb:But (InR rs) W W') (ho:∀ x,InR rs' x→InR rs x∨W.heap.size≤x):Hear rs0 w W' G rs' va x e B vf l:=
 ⟨hh,h.box.but hb h.boxN,fun q=>(ho _ q).elim h.boxN fun l=>by have:=h.box.lt;omega,kp h.own fun g hg=>hb.block g (qf h.own g hg).2 (h.ownN g hg),fun g hg q=>(ho _ q).elim (h.ownN g hg) fun l=>by have:=(qf h.own g hg).2;omega⟩
theorem Hear.below {w W:World} {e:Ed} (h:Hear rs0 w W G rs va x e B vf l) (hb:Bel W W'):Hear rs0 w W' G rs va x e B vf l:=
 ⟨h.hist.below hb,h.box.below hb h.box.lt,h.boxN,xk h.own hb,h.ownN⟩
theorem history_any (es:List Ed) (a:Option Addr) (c:Nat) (rs0:List Rp) (gl cap:Nat) (w:World) (hes:EdsIs w a es) (heT:∀ e∈es,EdT e) (hen:es.length≤140737488355328) (hfa:es=[]∨∀ g off,a=some (Ad g off)→¬ InR rs0 g) (hcl:∀ j (h:j < rs0.length),w.cell? (Ad gl j)=some (.pointer (some ⟨rs0[j].b,0,none⟩))) (hfl:¬ InR rs0 gl) (hg:15≤w.heap.size) (h0:HistS rs0 w w [] rs0 (.slice none 0 0) []) :
  Cs 19 #[.slice (some (Ad gl 0)) 3 cap,.slice a es.length c] w fun e w'=>∃ G rs va,e=.returned (.tuple #[va,.bool true])∧HistS rs0 w w' G rs va G:=by
 obtain ⟨i0,hi,hz0,hz1,hz2⟩:=info_parts infoO;have HE:=kr (qd hes heT);have HF:=kr (qd hfa (qd hcl hfl));have HG:=kr hg;have H0:=kr h0;clear hes heT hfa hcl hfl hg h0;go_enter Tryz.func19,Tryz.ntmps19;go_wp2_with fail;go_loopw [6,7] (fun va iv wr=>∃ (i:Nat) (G:List Opn) (rs:List Rp),i≤30∧iv=I6 i∧G.length≤i∧Hid (HistS rs0 w wr G rs va G)) (fun _ iv _=>30-(intOf iv).toNat)
 case atStart=>exact ⟨0,[],rs0,qs _,rfl,qb _,H0⟩
 case round=>
  obtain ⟨i,G,rs,hi30,rfl,hGi,HS⟩:=hrel;clear H0;by_cases hlt:i < es.length
  ·have li:(i:Int) < (es.length:Int):=by omega
   by_cases h30:i < 30
   ·have l30:(i:Int) < 30:=by omega
    rcases HE.out.1 with q | ⟨ga,off,rfl,hO⟩
    ·subst q;cases hlt
    have hGa:=HF.out.1.resolve_left (fun q=>by subst q;cases hlt) ga off rfl;obtain ⟨e,he⟩:∃ e,es[i]=e:=⟨_,rfl⟩;have k0:=HS.out.cell (hO i hlt 0 (by omega)) hGa;have k1:=HS.out.cell (hO i hlt 1 (by omega)) hGa;have k2:=HS.out.cell (hO i hlt 2 (by omega)) hGa;have k3:=HS.out.cell (hO i hlt 3 (by omega)) hGa;simp only [he,edV,ed4,y8] at k0 k1 k2 k3;have HT:Hid (EdT e):=kr (he▸HE.out.2 _ (qn hlt));clear hO hGa he;have r3:=Qe (c:=e.who) (n:=3) (by omega);obtain ⟨j,hj⟩:∃ j:Nat,pk e.who 3=j:=⟨(pk e.who 3).toNat,by omega⟩;have hj3:j < 3:=by omega
    have j3:(j:Int) < 3:=by omega
    have j0:(0:Int)≤(j:Int):=by omega
    clear r3;obtain ⟨h1,h0,-,-⟩:=HS.out.at_ hj3;obtain ⟨b,hb⟩:∃ b,∀ h0:j < rs0.length,rs0[j].b=b:=⟨rs0[j].b,fun _=>rfl⟩;have HCl:Hid (w.cell? (Ad gl j)=some ((pt b 0))∧¬ InR rs0 gl):=kr ⟨hb h0▸HF.out.2.1 j h0,HF.out.2.2⟩;have HNb:Hid (¬ InR rs wr.heap.size):=kr fun q=>by have:=HS.out.many.lt q;omega
    have HV:Hid (∀ g,u6.ownBlock=some g→g < wr.heap.size):=kr fun g q=>(qf HS.out.own g q).2;have HWs:Hid (w.heap.size≤wr.heap.size):=kr HS.out.size;have HS1:=kr (HS.out.below (kq wr (.cells #[I6 e.who,I6 e.kind,I6 e.at',I6 e.c] 95)));have HB:Hid (RowIs (wr.alloc (.cells #[I6 e.who,I6 e.kind,I6 e.at',I6 e.c] 95)) wr.heap.size 95 4 (edV e)):=kr (RowIs.last rfl rfl);have Hb:=kr hb;clear h1 h0 HS hb;by_cases hk:pk e.kind 6 < 4
    ·go_wp2_with (first | (go_at_call 22;have hq:=PKd;clear hq;refine (xi e.kind 6 HT.out.kind (by omega) _).mono ?_;rintro e' wx ⟨rfl,hwx⟩;obtain rfl:=hwx.symm) | (go_at_call 22;refine (xi e.who 3 HT.out.who (by omega) _).mono ?_;rw [hj];rintro e' wx ⟨rfl,hwx⟩;obtain rfl:=hwx.symm;have PKd:Hid True:=kr trivial));have HS:=HS1;refine wp_region_held_drew (S:=fun W=>W.cell? (Ad gl j)=some ((pt b 0))∧RowIs W wr.heap.size 95 4 (edV e)) (by kernel_rfl) (⟨(HS.out.below (vu rfl)).cell HCl.out.1 HCl.out.2,HB.out.drew⟩) (fun hHeld=>?_);generalize hwD:World.drew _=wD at hHeld ⊢;have HS:=kr (HS.out.below (vu hwD));clear hwD HS1 HB k0 k1 k2 k3 PKd;refine wpAnyH_take (i:=0) (oi:={ dst:=some 37,op:=_,type:=_,pos:=_,after:=_,guard:=_ }) rfl (by kernel_rfl) (by kernel_rfl) (by kernel_rfl) (fun _ _ _ h=>h) (Or.inl ⟨by rfl,fun w _=>by go_simp;rfl⟩) hHeld ?_;simp only [Act.put,qc,qh,qg];refine wpAnyH_take (i:=1) (oi:={ dst:=some 38,op:=_,type:=_,pos:=_,after:=_,guard:=_ }) rfl (by kernel_rfl) (by kernel_rfl) (by kernel_rfl) (fun _ _ _ h=>h) (Or.inl ⟨by rfl,fun w _=>by go_simp;rfl⟩) hHeld ?_;simp only [Act.put,qc,qh,qg];refine wpAnyH_take (i:=2) (oi:={ dst:=some 39,op:=_,type:=_,pos:=_,after:=_,guard:=_ }) rfl (by kernel_rfl) (by kernel_rfl) (by kernel_rfl) (fun _ _ _ h=>h) (Or.inl ⟨by rfl,fun w _=>by go_simp;rfl⟩) hHeld ?_;simp only [Act.put,qc,qh,qg];refine wpAnyH_take (i:=3) (oi:={ dst:=some 40,op:=_,type:=_,pos:=_,after:=_,guard:=_ }) rfl (by kernel_rfl) (by kernel_rfl) (by kernel_rfl) (fun _ _ _ h=>h) (Or.inl ⟨by rfl,fun W hS=>by have hq:=hS.1;go_simp;rfl⟩) hHeld ?_;simp only [Act.put,qc,qh,qg];refine wpAnyH_take (i:=4) (oi:={ dst:=some 41,op:=_,type:=_,pos:=_,after:=_,guard:=_ }) rfl (by kernel_rfl) (by kernel_rfl) (by kernel_rfl) (fun _ _ _ h=>h) (Or.inl ⟨by rfl,fun W hS=>by have y0:=hS.2.cell (j:=0) (by omega);have y1:=hS.2.cell (j:=1) (by omega);have y2:=hS.2.cell (j:=2) (by omega);have y3:=hS.2.cell (j:=3) (by omega);simp only [edV,ed4] at y0 y1 y2 y3;go_simp;rfl⟩) hHeld ?_;simp only [Act.put,qc,qh,qg];refine wpAnyH_ready (rs:=[5,10]) (by kernel_rfl) (by simp) (AllReadyH.cons (o:={ dst:=some 42,op:=_,type:=_,pos:=_,after:=_,guard:=_ }) rfl (fun K hK=>?_) (AllReadyH.cons (o:={ dst:=some 10,op:=_,type:=_,pos:=_,after:=_,guard:=_ }) rfl (fun K hK=>?_) AllReadyH.nil))
     ·go_simp;refine (doesH HS.out (by omega) hj3 Hb.out e HT.out).mono ?_;rintro r w4 ⟨o,s,G',rs',rfl,hS4,hG',hbut,hown⟩;have HS:=kr hS4;have HC:=kr hG';refine hK.out _ _ ⟨HS.out.cell HCl.out.1 HCl.out.2,hHeld.2.but hbut HNb.out⟩ (fun hHeld=>?_);clear hK K hS4 hG' hbut hown;refine wpAnyH_take (i:=6) (oi:={ dst:=some 36,op:=_,type:=_,pos:=_,after:=_,guard:=_ }) rfl (by kernel_rfl) (by kernel_rfl) (by kernel_rfl) (fun _ _ _ h=>h) (Or.inl ⟨by rfl,fun w _=>by go_simp;rfl⟩) hHeld ?_;simp only [Act.put,qc,qh,qg];refine wpAnyH_take (i:=7) (oi:={ dst:=some 43,op:=_,type:=_,pos:=_,after:=_,guard:=_ }) rfl (by kernel_rfl) (by kernel_rfl) (by kernel_rfl) (fun _ _ _ h=>h) (Or.inl ⟨by rfl,fun w _=>by go_simp;rfl⟩) hHeld ?_;simp only [Act.put,qc,qh,qg];refine wpAnyH_take (i:=8) (oi:={ dst:=some 44,op:=_,type:=_,pos:=_,after:=_,guard:=_ }) rfl (by kernel_rfl) (by kernel_rfl) (by kernel_rfl) (fun _ _ _ h=>h) (Or.inl ⟨by rfl,fun w _=>by go_simp;rfl⟩) hHeld ?_;simp only [Act.put,qc,qh,qg];refine wpAnyH_take (i:=9) (oi:={ dst:=some 45,op:=_,type:=_,pos:=_,after:=_,guard:=_ }) rfl (by kernel_rfl) (by kernel_rfl) (by kernel_rfl) (fun _ _ _ h=>h) (Or.inl ⟨by rfl,fun w _=>by go_simp;rfl⟩) hHeld ?_;simp only [Act.put,qc,qh,qg];refine wpAnyH_ready (rs:=[10]) (by kernel_rfl) (by simp) (AllReadyH.cons (o:={ dst:=some 10,op:=_,type:=_,pos:=_,after:=_,guard:=_ }) rfl (fun K hK=>?_) AllReadyH.nil);go_simp;have RA:Hid (RowIs (w4.alloc (.cells oZ 43)) w4.heap.size 43 6 (opV o0)):=kr (RowIs.last rfl rfl);have HNa:Hid (¬ InR rs' w4.heap.size):=kr fun q=>by have:=HS.out.many.lt q;omega
      have HX:Hid (wr.heap.size < w4.heap.size):=kr hHeld.2.lt;have HS:=kr (HS.out.below (kq w4 (.cells oZ 43)));refine hK.out _ _ ⟨HS.out.cell HCl.out.1 HCl.out.2,hHeld.2.below (kq _ _) hHeld.2.lt⟩ (fun hHeld=>?_);clear hK K;refine wpAnyH_ready (rs:=[11]) (by kernel_rfl) (by simp) (AllReadyH.cons (o:={ dst:=none,op:=_,type:=_,pos:=_,after:=_,guard:=_ }) rfl (fun K hK=>?_) AllReadyH.nil);rw [if_pos (by rfl)];refine wp_store_row 43 (.tmp 10) (.tmp 43) rfl w4.heap.size (rowOf 6 (opV o)) rfl rfl _ _ RA.out (by rw [rowOf_size];exact Qi) (by simp only [rowOf_size]) (vh _) ?_;have HS:=kr (HS.out.touch HG.out RA.out (qi HWs.out (yz HX.out)) HNa.out (fun q=>by have:=HV.out _ q;have:=HX.out;omega) (rowOf 6 (opV o)));have RA:=kr (RA.out.setRow (opV o));refine hK.out _ _ ⟨HS.out.cell HCl.out.1 HCl.out.2,hHeld.2.setRowOther (by have:=HX.out;omega) _⟩ (fun hHeld=>?_);clear hK K;refine wpAnyH_ready (rs:=[12]) (by kernel_rfl) (by simp) (AllReadyH.cons (o:={ dst:=some 11,op:=_,type:=_,pos:=_,after:=_,guard:=_ }) rfl (fun K hK=>?_) AllReadyH.nil);go_simp;refine hK.out _ _ hHeld (fun hHeld=>?_);clear hK K;refine wpAnyH_ready (rs:=[13]) (by kernel_rfl) (by simp) (AllReadyH.cons (o:={ dst:=some 12,op:=_,type:=_,pos:=_,after:=_,guard:=_ }) rfl (fun K hK=>?_) AllReadyH.nil);go_simp;refine hK.out _ _ hHeld (fun hHeld=>?_);clear hK K;refine wpAnyH_done (by kernel_rfl) ?_ _;clear hHeld;rcases HC.out with ⟨hs,hG'⟩ | ⟨hs,hG'⟩
      ·subst hs hG';generalize ((World.setRow (w4.alloc (.cells oZ 43)) w4.heap.size (rowOf 6 (opV o))))=W9 at HS RA ⊢;have y0:=RA.out.cell (j:=0) (by omega);have y1:=RA.out.cell (j:=1) (by omega);have y2:=RA.out.cell (j:=2) (by omega);have y3:=RA.out.cell (j:=3) (by omega);have y4:=RA.out.cell (j:=4) (by omega);have y5:=RA.out.cell (j:=5) (by omega);simp only [opV] at y0 y1 y2 y3 y4 y5;go_wp2_with (at_builtin;refine wpList_append_own_at _ rfl (.tmp 49) (.tmp 51) 32 rfl w.heap.size 43 i0 (.agg oZ) 6 40 Tryz.underlying32 hi hz0 hz1 hz2 rfl (by decide) u6 G.length (opCs G) rfl (zg HS.out.own _) (Ad W9.heap.size 0) 1 1 [I6 o.kd,U3 o.cl,U3 o.ck,U3 o.st,U6 o.rf,I3 o.ch] rfl rfl ?hn (by simp [Value.oneCell']) (by unfold maxLen;omega) (by omega) (qi HS.out.size (by simp)) ?_;(case hn=>exact op_new _ _);intro v6 w6 ho6 hg6 _ hat6;have H6:=kr ((HS.out.below (kq _ _)).grown HG.out hg6 hat6 (own_snoc ho6));clear ho6 hg6 hat6);go_roundw
       case rel=>exact ⟨i+1,_,_,h30,by go_num,by rw [qe,zp];omega,H6⟩
       case measure=>simp [intOf];omega
      ·subst hs hG';go_wp2_with fail;go_roundw
       case rel=>exact ⟨i+1,_,_,h30,by go_num,by omega,HS⟩
       case measure=>simp [intOf];omega
     ·go_simp;have RA:Hid (RowIs (wD.alloc (.cells oZ 43)) wD.heap.size 43 6 (opV o0)):=kr (RowIs.last rfl rfl);have HNa:Hid (¬ InR rs wD.heap.size):=kr fun q=>by have:=HS.out.many.lt q;omega
      have HX:Hid (wr.heap.size < wD.heap.size):=kr hHeld.2.lt;have HS:=kr (HS.out.below (kq wD (.cells oZ 43)));refine hK.out _ _ ⟨HS.out.cell HCl.out.1 HCl.out.2,hHeld.2.below (kq _ _) hHeld.2.lt⟩ (fun hHeld=>?_);clear hK K;refine wpAnyH_ready (rs:=[5]) (by kernel_rfl) (by simp) (AllReadyH.cons (o:={ dst:=some 42,op:=_,type:=_,pos:=_,after:=_,guard:=_ }) rfl (fun K hK=>?_) AllReadyH.nil);go_simp;refine (doesH HS.out (by omega) hj3 Hb.out e HT.out).mono ?_;rintro r w4 ⟨o,s,G',rs',rfl,hS4,hG',hbut,hown⟩;have RA:=kr (RA.out.but hbut HNa.out);have HNa:=kr (fun q=>(hown _ q).elim HNa.out (fun l=>absurd l (by simp)));have HS:=kr hS4;have HC:=kr hG';refine hK.out _ _ ⟨HS.out.cell HCl.out.1 HCl.out.2,hHeld.2.but hbut HNb.out⟩ (fun hHeld=>?_);clear hK K hS4 hG' hbut hown;refine wpAnyH_take (i:=6) (oi:={ dst:=some 36,op:=_,type:=_,pos:=_,after:=_,guard:=_ }) rfl (by kernel_rfl) (by kernel_rfl) (by kernel_rfl) (fun _ _ _ h=>h) (Or.inl ⟨by rfl,fun w _=>by go_simp;rfl⟩) hHeld ?_;simp only [Act.put,qc,qh,qg];refine wpAnyH_take (i:=7) (oi:={ dst:=some 43,op:=_,type:=_,pos:=_,after:=_,guard:=_ }) rfl (by kernel_rfl) (by kernel_rfl) (by kernel_rfl) (fun _ _ _ h=>h) (Or.inl ⟨by rfl,fun w _=>by go_simp;rfl⟩) hHeld ?_;simp only [Act.put,qc,qh,qg];refine wpAnyH_take (i:=8) (oi:={ dst:=some 44,op:=_,type:=_,pos:=_,after:=_,guard:=_ }) rfl (by kernel_rfl) (by kernel_rfl) (by kernel_rfl) (fun _ _ _ h=>h) (Or.inl ⟨by rfl,fun w _=>by go_simp;rfl⟩) hHeld ?_;simp only [Act.put,qc,qh,qg];refine wpAnyH_take (i:=9) (oi:={ dst:=some 45,op:=_,type:=_,pos:=_,after:=_,guard:=_ }) rfl (by kernel_rfl) (by kernel_rfl) (by kernel_rfl) (fun _ _ _ h=>h) (Or.inl ⟨by rfl,fun w _=>by go_simp;rfl⟩) hHeld ?_;simp only [Act.put,qc,qh,qg];refine wpAnyH_ready (rs:=[11]) (by kernel_rfl) (by simp) (AllReadyH.cons (o:={ dst:=none,op:=_,type:=_,pos:=_,after:=_,guard:=_ }) rfl (fun K hK=>?_) AllReadyH.nil);rw [if_pos (by rfl)];refine wp_store_row 43 (.tmp 10) (.tmp 43) rfl wD.heap.size (rowOf 6 (opV o)) rfl rfl _ _ RA.out (by rw [rowOf_size];exact Qi) (by simp only [rowOf_size]) (vh _) ?_;have HS:=kr (HS.out.touch HG.out RA.out (qi HWs.out (yz HX.out)) HNa.out (fun q=>by have:=HV.out _ q;have:=HX.out;omega) (rowOf 6 (opV o)));have RA:=kr (RA.out.setRow (opV o));refine hK.out _ _ ⟨HS.out.cell HCl.out.1 HCl.out.2,hHeld.2.setRowOther (by have:=HX.out;omega) _⟩ (fun hHeld=>?_);clear hK K;refine wpAnyH_ready (rs:=[12]) (by kernel_rfl) (by simp) (AllReadyH.cons (o:={ dst:=some 11,op:=_,type:=_,pos:=_,after:=_,guard:=_ }) rfl (fun K hK=>?_) AllReadyH.nil);go_simp;refine hK.out _ _ hHeld (fun hHeld=>?_);clear hK K
      refine wpAnyH_ready (rs:=[13]) (by kernel_rfl) (by simp) (AllReadyH.cons (o:={ dst:=some 12,op:=_,type:=_,pos:=_,after:=_,guard:=_ }) rfl (fun K hK=>?_) AllReadyH.nil);go_simp;refine hK.out _ _ hHeld (fun hHeld=>?_);clear hK K;refine wpAnyH_done (by kernel_rfl) ?_ _;clear hHeld;rcases HC.out with ⟨hs,hG'⟩ | ⟨hs,hG'⟩
      ·subst hs hG';generalize ((World.setRow w4 wD.heap.size (rowOf 6 (opV o))))=W9 at HS RA ⊢;have y0:=RA.out.cell (j:=0) (by omega);have y1:=RA.out.cell (j:=1) (by omega);have y2:=RA.out.cell (j:=2) (by omega);have y3:=RA.out.cell (j:=3) (by omega);have y4:=RA.out.cell (j:=4) (by omega);have y5:=RA.out.cell (j:=5) (by omega);simp only [opV] at y0 y1 y2 y3 y4 y5;go_wp2_with (at_builtin;refine wpList_append_own_at _ rfl (.tmp 49) (.tmp 51) 32 rfl w.heap.size 43 i0 (.agg oZ) 6 40 Tryz.underlying32 hi hz0 hz1 hz2 rfl (by decide) u6 G.length (opCs G) rfl (zg HS.out.own _) (Ad W9.heap.size 0) 1 1 [I6 o.kd,U3 o.cl,U3 o.ck,U3 o.st,U6 o.rf,I3 o.ch] rfl rfl ?hn (by simp [Value.oneCell']) (by unfold maxLen;omega) (by omega) (qi HS.out.size (by simp)) ?_;(case hn=>exact op_new _ _);intro v6 w6 ho6 hg6 _ hat6;have H6:=kr ((HS.out.below (kq _ _)).grown HG.out hg6 hat6 (own_snoc ho6));clear ho6 hg6 hat6);go_roundw
       case rel=>exact ⟨i+1,_,_,h30,by go_num,by rw [qe,zp];omega,H6⟩
       case measure=>simp [intOf];omega
      ·subst hs hG';go_wp2_with fail;go_roundw
       case rel=>exact ⟨i+1,_,_,h30,by go_num,by omega,HS⟩
       case measure=>simp [intOf];omega
    ·obtain ⟨wq,rfl⟩:∃ x,x=wr:=⟨_,rfl⟩;have r4:=Qe (c:=e.at') (n:=3) (by omega);obtain ⟨q,hq'⟩:∃ q:Nat,pk e.at' 3=q:=⟨(pk e.at' 3).toNat,by omega⟩;have hq3:q < 3:=by omega
     have q3:(q:Int) < 3:=by omega
     have q0:(0:Int)≤(q:Int):=by omega
     clear r4;obtain ⟨h1,h0,-,-⟩:=HS1.out.at_ hq3;obtain ⟨bq,hbq⟩:∃ b,∀ h0:q < rs0.length,rs0[q].b=b:=⟨rs0[q].b,fun _=>rfl⟩;have cq:=HS1.out.cell (hbq h0▸HF.out.2.1 q h0) HF.out.2.2;have Hbq:=kr hbq;clear h0 h1 hbq;go_wp2_with (first | (go_at_call 23;refine (opsH HS1.out hq3 Hbq.out).mono ?_;rintro r w5 ⟨s,l,rfl,hsub,hlen,hO,hb5⟩;obtain ⟨af,cf,rfl⟩:=kt hO;have HI0:Hid (Hear rs0 w w5 G rs u6 wq.heap.size e (wq.alloc (.cells #[I6 e.who,I6 e.kind,I6 e.at',I6 e.c] 95)).heap.size (.slice af l.length cf) l):=kr ⟨HS1.out.below hb5,HB.out.below hb5 HB.out.lt,HNb.out,hO,fun g hg q=>by have:=HS1.out.many.lt q;have:=(qf hO g hg).1;omega⟩;have HL:=kr (qd hsub hlen);clear hsub hlen hO hb5) | (go_at_call 22;have hq:=PKe;clear hq;refine (xi e.at' 3 HT.out.at' (by omega) _).mono ?_;rw [hq'];rintro e' wx ⟨rfl,hwx⟩;obtain rfl:=hwx.symm) | (go_at_call 22;have hq:=PKd;clear hq;refine (xi e.kind 6 HT.out.kind (by omega) _).mono ?_;rintro e' wx ⟨rfl,hwx⟩;obtain rfl:=hwx.symm;have PKe:Hid True:=kr trivial) | (go_at_call 22;refine (xi e.who 3 HT.out.who (by omega) _).mono ?_;rw [hj];rintro e' wx ⟨rfl,hwx⟩;obtain rfl:=hwx.symm;have PKd:Hid True:=kr trivial));have hl120:l.length≤120:=HL.out.2;clear PKd PKe k0 k1 k2 k3 HS1 HB HNb cq;generalize decide (pk e.kind 6 < 4)=d35;generalize hkx:pk e.kind 6=kx at hk ⊢;have Hkx:=kr hkx;clear hkx;go_loopw [14] (fun kv wk=>∃ (k:Nat) (rs2:List Rp),k≤l.length∧kv=I6 k∧Hid (Hear rs0 w wk G rs2 u6 wq.heap.size e (wq.alloc (.cells #[I6 e.who,I6 e.kind,I6 e.at',I6 e.c] 95)).heap.size (.slice af l.length cf) l)) (fun kv _=>l.length-(intOf kv).toNat)
     case atStart=>exact ⟨0,_,qs _,rfl,HI0⟩
     case round=>
      obtain ⟨k,rs2,hk0,rfl,HI⟩:=hrel;clear HI0;by_cases hk2:k < l.length
      ·have lk:(k:Int) < (l.length:Int):=by omega
       have c1:=HI.out.box.cell (j:=1) (by omega);have c3:=HI.out.box.cell (j:=3) (by omega);simp only [edV,ed4] at c1 c3;by_cases h5:kx=5
       ·subst h5;go_wp2_with (go_at_call 22;refine (xi e.kind 6 HT.out.kind (by omega) _).mono ?_;rw [Hkx.out];rintro e' wx ⟨rfl,hwx⟩;obtain rfl:=hwx.symm;have PK6:Hid True:=kr trivial);rcases HI.out.own.2 with ⟨q,h0⟩ | ⟨gf,cap',cur,q,-⟩
        ·omega
        simp only [Value.slice.injEq] at q;obtain ⟨rfl,-,rfl⟩:=q;refine wp_region_held_drew (S:=fun W=>W.cell? (Ad gl j)=some ((pt b 0))∧OwnO W (wq.alloc (.cells #[I6 e.who,I6 e.kind,I6 e.at',I6 e.c] 95)).heap.size (.slice (some (Ad gf 0)) l.length cf) l) (by kernel_rfl) (⟨(HI.out.below (vu rfl)).hist.cell HCl.out.1 HCl.out.2,(HI.out.below (vu rfl)).own⟩) (fun hHeld=>?_);generalize hwD:World.drew _=wD at hHeld ⊢;have HI:=kr (HI.out.below (vu hwD));clear hwD c1 c3;refine wpAnyH_take (i:=0) (oi:={ dst:=some 77,op:=_,type:=_,pos:=_,after:=_,guard:=_ }) rfl (by kernel_rfl) (by kernel_rfl) (by kernel_rfl) (fun _ _ _ h=>h) (Or.inl ⟨by rfl,fun w _=>by go_simp;rfl⟩) hHeld ?_;simp only [Act.put,qc,qh,qg];refine wpAnyH_take (i:=1) (oi:={ dst:=some 78,op:=_,type:=_,pos:=_,after:=_,guard:=_ }) rfl (by kernel_rfl) (by kernel_rfl) (by kernel_rfl) (fun _ _ _ h=>h) (Or.inl ⟨by rfl,fun w _=>by go_simp;rfl⟩) hHeld ?_;simp only [Act.put,qc,qh,qg];refine wpAnyH_take (i:=2) (oi:={ dst:=some 79,op:=_,type:=_,pos:=_,after:=_,guard:=_ }) rfl (by kernel_rfl) (by kernel_rfl) (by kernel_rfl) (fun _ _ _ h=>h) (Or.inl ⟨by rfl,fun w _=>by go_simp;rfl⟩) hHeld ?_;simp only [Act.put,qc,qh,qg];refine wpAnyH_take (i:=3) (oi:={ dst:=some 80,op:=_,type:=_,pos:=_,after:=_,guard:=_ }) rfl (by kernel_rfl) (by kernel_rfl) (by kernel_rfl) (fun _ _ _ h=>h) (Or.inl ⟨by rfl,fun W hS=>by have hq:=hS.1;go_simp;rfl⟩) hHeld ?_;simp only [Act.put,qc,qh,qg];refine wpAnyH_take (i:=4) (oi:={ dst:=some 81,op:=_,type:=_,pos:=_,after:=_,guard:=_ }) rfl (by kernel_rfl) (by kernel_rfl) (by kernel_rfl) (fun _ _ _ h=>h) (Or.inl ⟨by rfl,fun w _=>by go_simp;rfl⟩) hHeld ?_;simp only [Act.put,qc,qh,qg];refine wpAnyH_take (i:=5) (oi:={ dst:=some 82,op:=_,type:=_,pos:=_,after:=_,guard:=_ }) rfl (by kernel_rfl) (by kernel_rfl) (by kernel_rfl) (fun _ _ _ h=>h) (Or.inl ⟨by rfl,fun w _=>by go_simp;rfl⟩) hHeld ?_;simp only [Act.put,qc,qh,qg];refine wpAnyH_take (i:=6) (oi:={ dst:=some 83,op:=_,type:=_,pos:=_,after:=_,guard:=_ }) rfl (by kernel_rfl) (by kernel_rfl) (by kernel_rfl) (fun _ _ _ h=>h) (Or.inl ⟨by rfl,fun w _=>by go_simp;rfl⟩) hHeld ?_;simp only [Act.put,qc,qh,qg];refine wpAnyH_take (i:=7) (oi:={ dst:=some 84,op:=_,type:=_,pos:=_,after:=_,guard:=_ }) rfl (by kernel_rfl) (by kernel_rfl) (by kernel_rfl) (fun _ _ _ h=>h) (Or.inl ⟨by rfl,fun W hS=>by have hcs:=(OwnO.at0 hS.2).cells hk2;simp only [q9] at hcs;obtain ⟨a0,a1,a2,a3,a4,a5⟩:=hcs;go_simp;rfl⟩) hHeld ?_;simp only [Act.put,qc,qh,qg]
        refine wpAnyH_ready (rs:=[8]) (by kernel_rfl) (by simp) (AllReadyH.cons (o:={ dst:=some 85,op:=_,type:=_,pos:=_,after:=_,guard:=_ }) rfl (fun K hK=>?_) AllReadyH.nil);go_simp;refine (addH HI.out.hist hj3 Hb.out l[k] (HL.out.1 _ (qn hk2))).mono ?_;rintro r w7 ⟨n7,rs3,rfl,hh,hbut,hown⟩;have HI:=kr (HI.out.next hh hbut hown);refine hK.out _ _ ⟨HI.out.hist.cell HCl.out.1 HCl.out.2,HI.out.own⟩ (fun hHeld=>?_);clear hK K hh hbut hown;refine wpAnyH_done (by kernel_rfl) ?_ _;clear hHeld;go_wp2_with fail;go_roundw
        case rel=>exact ⟨k+1,_,hk2,by go_num,HI⟩
        case measure=>simp [intOf];omega
       ·by_cases h8:(k:Int) < pk e.c 8
        ·go_wp2_with (first | (go_at_call 22;have hq:=PK6;clear hq;refine (xi e.c 8 HT.out.c (by omega) _).mono ?_;rintro e' wx ⟨rfl,hwx⟩;obtain rfl:=hwx.symm) | (go_at_call 22;refine (xi e.kind 6 HT.out.kind (by omega) _).mono ?_;rw [Hkx.out];rintro e' wx ⟨rfl,hwx⟩;obtain rfl:=hwx.symm;have PK6:Hid True:=kr trivial));rcases HI.out.own.2 with ⟨q,h0⟩ | ⟨gf,cap',cur,q,-⟩
         ·omega
         simp only [Value.slice.injEq] at q;obtain ⟨rfl,-,rfl⟩:=q;refine wp_region_held_drew (S:=fun W=>W.cell? (Ad gl j)=some ((pt b 0))∧OwnO W (wq.alloc (.cells #[I6 e.who,I6 e.kind,I6 e.at',I6 e.c] 95)).heap.size (.slice (some (Ad gf 0)) l.length cf) l) (by kernel_rfl) (⟨(HI.out.below (vu rfl)).hist.cell HCl.out.1 HCl.out.2,(HI.out.below (vu rfl)).own⟩) (fun hHeld=>?_);generalize hwD:World.drew _=wD at hHeld ⊢;have HI:=kr (HI.out.below (vu hwD));clear hwD c1 c3;refine wpAnyH_take (i:=0) (oi:={ dst:=some 77,op:=_,type:=_,pos:=_,after:=_,guard:=_ }) rfl (by kernel_rfl) (by kernel_rfl) (by kernel_rfl) (fun _ _ _ h=>h) (Or.inl ⟨by rfl,fun w _=>by go_simp;rfl⟩) hHeld ?_;simp only [Act.put,qc,qh,qg];refine wpAnyH_take (i:=1) (oi:={ dst:=some 78,op:=_,type:=_,pos:=_,after:=_,guard:=_ }) rfl (by kernel_rfl) (by kernel_rfl) (by kernel_rfl) (fun _ _ _ h=>h) (Or.inl ⟨by rfl,fun w _=>by go_simp;rfl⟩) hHeld ?_;simp only [Act.put,qc,qh,qg];refine wpAnyH_take (i:=2) (oi:={ dst:=some 79,op:=_,type:=_,pos:=_,after:=_,guard:=_ }) rfl (by kernel_rfl) (by kernel_rfl) (by kernel_rfl) (fun _ _ _ h=>h) (Or.inl ⟨by rfl,fun w _=>by go_simp;rfl⟩) hHeld ?_;simp only [Act.put,qc,qh,qg];refine wpAnyH_take (i:=3) (oi:={ dst:=some 80,op:=_,type:=_,pos:=_,after:=_,guard:=_ }) rfl (by kernel_rfl) (by kernel_rfl) (by kernel_rfl) (fun _ _ _ h=>h) (Or.inl ⟨by rfl,fun W hS=>by have hq:=hS.1;go_simp;rfl⟩) hHeld ?_;simp only [Act.put,qc,qh,qg];refine wpAnyH_take (i:=4) (oi:={ dst:=some 81,op:=_,type:=_,pos:=_,after:=_,guard:=_ }) rfl (by kernel_rfl) (by kernel_rfl) (by kernel_rfl) (fun _ _ _ h=>h) (Or.inl ⟨by rfl,fun w _=>by go_simp;rfl⟩) hHeld ?_;simp only [Act.put,qc,qh,qg];refine wpAnyH_take (i:=5) (oi:={ dst:=some 82,op:=_,type:=_,pos:=_,after:=_,guard:=_ }) rfl (by kernel_rfl) (by kernel_rfl) (by kernel_rfl) (fun _ _ _ h=>h) (Or.inl ⟨by rfl,fun w _=>by go_simp;rfl⟩) hHeld ?_;simp only [Act.put,qc,qh,qg];refine wpAnyH_take (i:=6) (oi:={ dst:=some 83,op:=_,type:=_,pos:=_,after:=_,guard:=_ }) rfl (by kernel_rfl) (by kernel_rfl) (by kernel_rfl) (fun _ _ _ h=>h) (Or.inl ⟨by rfl,fun w _=>by go_simp;rfl⟩) hHeld ?_;simp only [Act.put,qc,qh,qg];refine wpAnyH_take (i:=7) (oi:={ dst:=some 84,op:=_,type:=_,pos:=_,after:=_,guard:=_ }) rfl (by kernel_rfl) (by kernel_rfl) (by kernel_rfl) (fun _ _ _ h=>h) (Or.inl ⟨by rfl,fun W hS=>by have hcs:=(OwnO.at0 hS.2).cells hk2;simp only [q9] at hcs;obtain ⟨a0,a1,a2,a3,a4,a5⟩:=hcs;go_simp;rfl⟩) hHeld ?_;simp only [Act.put,qc,qh,qg]
         refine wpAnyH_ready (rs:=[8]) (by kernel_rfl) (by simp) (AllReadyH.cons (o:={ dst:=some 85,op:=_,type:=_,pos:=_,after:=_,guard:=_ }) rfl (fun K hK=>?_) AllReadyH.nil);go_simp;refine (addH HI.out.hist hj3 Hb.out l[k] (HL.out.1 _ (qn hk2))).mono ?_;rintro r w7 ⟨n7,rs3,rfl,hh,hbut,hown⟩;have HI:=kr (HI.out.next hh hbut hown);refine hK.out _ _ ⟨HI.out.hist.cell HCl.out.1 HCl.out.2,HI.out.own⟩ (fun hHeld=>?_);clear hK K hh hbut hown;refine wpAnyH_done (by kernel_rfl) ?_ _;clear hHeld;go_wp2_with fail;go_roundw
         case rel=>exact ⟨k+1,_,hk2,by go_num,HI⟩
         case measure=>simp [intOf];omega
        ·go_wp2_with (first | (go_at_call 22;have hq:=PK6;clear hq;refine (xi e.c 8 HT.out.c (by omega) _).mono ?_;rintro e' wx ⟨rfl,hwx⟩;obtain rfl:=hwx.symm) | (go_at_call 22;refine (xi e.kind 6 HT.out.kind (by omega) _).mono ?_;rw [Hkx.out];rintro e' wx ⟨rfl,hwx⟩;obtain rfl:=hwx.symm;have PK6:Hid True:=kr trivial))
         ·exfalso;rename_i hor;rcases hor with g | g
          ·exact h5 (by simpa using g)
          ·omega
         ·go_roundw
          case rel=>exact ⟨k+1,_,hk2,by go_num,HI⟩
          case measure=>simp [intOf];omega
      ·have lk:¬ (k:Int) < (l.length:Int):=by omega
       go_wp2_with fail;go_roundw
       case rel=>exact ⟨i+1,_,_,h30,by go_num,by omega,kr HI.out.hist⟩
       case measure=>simp [intOf];omega
   ·have l30:¬ (i:Int) < 30:=by omega
    go_wp2_with fail;go_ret2;exact ⟨G,rs,_,rfl,HS.out⟩
  ·have li:¬ (i:Int) < (es.length:Int):=by omega
   go_wp2_with fail;go_ret2;exact ⟨G,rs,_,rfl,HS.out⟩

import Derived.Test.YtgccjefbedpmpaaGreatDoorJStC
namespace Go.Proofs.YtgccjefbedpmpaaGreatDoor
open Go.RowKit
set_option maxRecDepth 100000
set_option maxHeartbeats 8000000
theorem Hist.lowC {G:List Opn} (h:Hist G):Low (chL (setOf G)):=fun c hc=>by
 obtain ⟨x,hx,rfl⟩:=List.mem_map.1 hc
 obtain ⟨h1,h2⟩:=visR_mem hx
 exact h.low x (setOf_mem.1 h1) h2
theorem Hist.pre {G:List Opn} (h:Hist G) (i:Nat):Hist (G.take i):=by
 rcases Nat.lt_or_ge i G.length with q | q
 ·exact (h.step q).pre
 ·rw [List.take_of_length_le q];exact h
theorem setOf_next {G:List Opn} {i:Nat} (hi:i < G.length):setOf (G.take (i+1))=putK G[i] (setOf (G.take i)):=by
 rw [List.take_succ_eq_append_getElem hi,setOf_snoc]
theorem step_ins {P:List Opn} {o:Opn} (h:Step P o) (hk:o.kd=1):∃ p,p≤(chL (setOf P)).length∧chL (putK o (setOf P))=(chL (setOf P)).take p++o.ch::(chL (setOf P)).drop p:=by
 obtain ⟨a,b,-,e2,e3,-⟩:=vis_ins h.pre.set h.set h.ok (fun x hx=>h.new x (setOf_mem.1 hx)) hk False (fun q=>q.elim)
 generalize (a.filter fun x=>!(goneOf (setOf P)).contains x.key)=u at e2 e3
 generalize (b.filter fun x=>!(goneOf (setOf P)).contains x.key)=v at e2 e3
 refine ⟨u.length,?_,?_⟩
 ·unfold chL;rw [e2,List.length_map,List.length_append];omega
 ·unfold chL
  rw [e3,e2,List.map_append,List.map_append,List.map_cons,List.take_left' (List.length_map ..),List.drop_left' (List.length_map ..)]
theorem step_del {P:List Opn} {o:Opn} (h:Step P o) (hk:¬ o.kd=1):chL (putK o (setOf P))=chL (setOf P)∨∃ p,p < (chL (setOf P)).length∧chL (putK o (setOf P))=(chL (setOf P)).eraseIdx p:=by
 have hv:=vis_del h.set hk
 have hf:=filt_one (vis_nodup h.pre.set) o.rf
 by_cases hx:∀ x∈visR (setOf P),x.key≠o.rf
 ·left;unfold chL;rw [hv,hf.2 hx]
 ·right
  obtain ⟨x,hx⟩:=Classical.not_forall.1 hx
  obtain ⟨hm,hk2⟩:=Classical.not_imp.1 hx
  have hk2:=Classical.not_not.1 hk2
  obtain ⟨i,hi,rfl⟩:=List.mem_iff_getElem.1 hm
  refine ⟨i,by unfold chL;rw [List.length_map];exact hi,?_⟩
  unfold chL
  rw [hv,hf.1 i hi hk2,List.eraseIdx_eq_take_drop_succ,List.map_append,List.map_take,List.map_drop]
def Diff (was now:List Int) (o:Opn):Prop:=if o.kd=1 then now.length=was.length+1∧∃ p,p < now.length∧now.eraseIdx p=was∧now[p]?=some o.ch else was=now∨∃ p,p < was.length∧was.eraseIdx p=now
theorem step_diff {P:List Opn} {o:Opn} (h:Step P o):Diff (chL (setOf P)) (chL (putK o (setOf P))) o:=by
 unfold Diff
 split
 ·rename_i hk
  obtain ⟨p,hp,e⟩:=step_ins h hk
  obtain ⟨s1,s2,s3⟩:=put_split hp o.ch
  rw [e]
  exact ⟨s1,p,by omega,s2,s3⟩
 ·rename_i hk
  rcases step_del h hk with e | ⟨p,hp,e⟩
  ·exact Or.inl e.symm
  ·exact Or.inr ⟨p,hp,e.symm⟩
theorem key_rng {o:Opn} (h:o.ok=true):0≤o.key∧o.key < 1099511627776:=by
 have hw:=okOp_w h (ok_rf h)
 have:=hw.cl
 have:=hw.ck
 unfold Opn.key
 omega
theorem rng_list {t:Tr} (h:ByKey t.list) (lo hi:Int):(t.rng lo hi).list=t.list.filter fun x=>decide (lo≤x.key∧x.key < hi):=by
 have h1:=(cut_list lo t h).2
 have h2:ByKey (t.cut lo).2.list:=by rw [h1];exact h.sublist List.filter_sublist
 unfold Tr.rng
 rw [(cut_list hi _ h2).1,h1,List.filter_filter]
 refine List.filter_congr fun x _=>?_
 by_cases a:x.key < lo <;> by_cases b:x.key < hi <;> simp [a,b] <;> omega
theorem rng_one {t t2:Tr} (hH:t.H) (hH2:t2.H) (h:ByKey t.list) (h2:ByKey t2.list) {lo hi lo2 hi2:Int} (e:(t.list.filter fun x=>decide (lo≤x.key∧x.key < hi))=t2.list.filter fun x=>decide (lo2≤x.key∧x.key < hi2)):t.rng lo hi=t2.rng lo2 hi2:=
 Tr.one (hH.rng _ _) (hH2.rng _ _) (by rw [rng_list h,rng_list h2,e])
theorem One.rngs {w:World} {b b2:Nat} {cl cl2:Int} {vW vW2:Value} {t t2:Tr} {ws ws2:List Opn} (h:One w b cl vW t ws) (k:One w b2 cl2 vW2 t2 ws2) {lo hi lo2 hi2:Int} (e:(t.list.filter fun x=>decide (lo≤x.key∧x.key < hi))=t2.list.filter fun x=>decide (lo2≤x.key∧x.key < hi2)):t.rng lo hi=t2.rng lo2 hi2:=by
 obtain ⟨_,_,_,-,ok,hH⟩:=h
 obtain ⟨_,_,_,-,ok2,hH2⟩:=k
 exact rng_one hH hH2 ok.set.by' ok2.set.by' e
theorem One.rootD {w:World} {b:Nat} {cl:Int} {vW:Value} {t:Tr} {ws:List Opn} (h:One w b cl vW t ws) (lo hi:Int) {D:ByteArray} (hD:strOfNums (t.rng lo hi).txt=D):Calls Tryz.prog 27 #[.pointer (some ⟨b,0,none⟩),.int .u64 lo,.int .u64 hi] w fun e w'=>e=.returned (.agg #[.int .u8 (dig D 0),.int .u8 (dig D 1),.int .u8 (dig D 2)])∧Below w.heap.size w w':=by
 subst hD
 exact h.root lo hi
theorem eqSame (a:ByteArray) (W:World):(Op.equalIn 10000 50 (.agg #[.int .u8 (dig a 0),.int .u8 (dig a 1),.int .u8 (dig a 2)]) (.agg #[.int .u8 (dig a 0),.int .u8 (dig a 1),.int .u8 (dig a 2)])).run Tryz.prog W=.ok true W:=by
 rw [eqDigG]
 simp
structure Some (P:List Opn) (c:Int) (n:Nat) (S:List Opn):Prop where
 len:S.length≤n
 sub:∀ x∈S,x∈P
 none:S=[]→n=0∨∀ x∈P,x.cl≠c
 first:∀ x,S[0]?=some x→x.ck=1
theorem Some.nil (c:Int) (n:Nat):Some [] c n []:=⟨Nat.zero_le _,fun _ h=>(by cases h),fun _=>Or.inr fun _ h=>(by cases h),fun _ h=>(by cases h)⟩
theorem Some.take {P:List Opn} {c:Int} {n:Nat} {S:List Opn} (h:Some P c n S) {o:Opn} (ho:Step P o) (hc:o.cl=c) (hl:S.length < n):Some (P++[o]) c n (S++[o]):=by
 refine ⟨by rw [List.length_append,List.length_singleton];omega,fun x hx=>?_,fun e=>?_,fun x hx=>?_⟩
 ·rcases List.mem_append.1 hx with q | q
  ·exact List.mem_append_left _ (h.sub x q)
  ·exact List.mem_append_right _ q
 ·simp at e
 ·cases S with
  | nil=>
   rcases h.none rfl with q | q
   ·omega
   ·have e:o=x:=by simpa using hx
    rw [← e]
    exact ho.first fun y hy=>by rw [hc];exact q y hy
  | cons a S=>exact h.first x (by simpa using hx)
theorem Some.pass {P:List Opn} {c:Int} {n:Nat} {S:List Opn} (h:Some P c n S) {o:Opn} (hq:o.cl≠c∨n≤S.length):Some (P++[o]) c n S:=by
 refine ⟨h.len,fun x hx=>List.mem_append_left _ (h.sub x hx),fun e=>?_,h.first⟩
 rcases hq with q | q
 ·refine (h.none e).via id fun k x hx=>?_
  rcases List.mem_append.1 hx with g | g
  ·exact k x g
  ·rw [List.mem_singleton.1 g];exact q
 ·rw [e] at q;exact Or.inl (by simpa using q)
theorem filt_key {l:List Opn} (hl:∀ x∈l,x.ok=true) {o:Opn} (ho:o.ok=true) (h1:o.ck=1) (hi:Int):(l.filter fun x=>decide (o.key≤x.key∧x.key < hi))=l.filter fun x=>decide (o.key-1≤x.key∧x.key < hi):=by
 refine List.filter_congr fun x hx=>?_
 have hw:=okOp_w (hl x hx) (ok_rf (hl x hx))
 have hv:=okOp_w ho (ok_rf ho)
 have k1:=ok_nums (hl x hx)
 have k2:=ok_nums ho
 have a:=hw.cl
 have b:=hw.ck
 have c:=hv.cl
 have:x.key≠o.key-1:=by
  unfold Opn.key
  omega
 have e:(o.key≤x.key)↔(o.key-1≤x.key):=by omega
 simp only [e]
theorem filt_none {l:List Opn} {lo hi:Int} (h:∀ x∈l,hi≤x.key∨x.key < lo):(l.filter fun x=>decide (lo≤x.key∧x.key < hi))=[]:=
 List.filter_eq_nil_iff.2 fun x hx=>by have:=h x hx;simp;omega
theorem own_base {w:World} {B B':Nat} {v:Value} {os:List Opn} (h:OwnO w B v os) (hb:B'≤B):OwnO w B' v os:=
 ⟨h.1,h.2.via id fun ⟨g,cap,cur,e,l,k⟩=>⟨g,cap,cur,e,Nat.le_trans hb l,k⟩⟩
theorem inR_snoc {rs:List Rp} {r:Rp} {x:Nat} (h:InR (rs++[r]) x):InR rs x∨x=r.b∨r.v.ownBlock=some x:=by
 obtain ⟨q,hq,e⟩:=h
 rcases List.mem_append.1 hq with k | k
 ·exact Or.inl ⟨q,k,e⟩
 ·rw [List.mem_singleton.1 k] at e;exact Or.inr e
structure Rest (w W:World) (rs:List Rp) (va:Value) (G:List Opn):Prop where
 many:Many W rs
 own:OwnO W w.heap.size va G
 free:∀ g,va.ownBlock=some g→¬ InR rs g
 below:Below w.heap.size w W
 far:∀ x,InR rs x→w.heap.size≤x
theorem Rest.kept {w W W':World} {rs:List Rp} {va:Value} {G:List Opn} (h:Rest w W rs va G) (hb:Below W.heap.size W W'):Rest w W' rs va G:=
 ⟨h.many.below hb,ownO_keep h.own hb,h.free,h.below.trans (hb.mono h.below.size),h.far⟩
theorem Rest.put {w W W':World} {rs:List Rp} {va:Value} {G:List Opn} (h:Rest w W rs va G) {i:Nat} (hi:i < rs.length) {os' ws':List Opn} {v':Value} {t':Tr} (a:After W W' rs[i].b rs[i].cl rs[i].v os' ws' v' t'):Rest w W' (rs.set i ⟨rs[i].b,rs[i].cl,v',t',ws'⟩) va G:=by
 obtain ⟨m1,m2⟩:=h.many.put hi a
 have s0:=h.below.size
 refine ⟨m1,own_frame h.own fun g hg=>m2.but.block g (World.ownsRow.lt h.own g hg).2 (h.free g hg),fun g hg q=>?_,⟨m2.but.os.trans h.below.os,m2.but.tape.trans h.below.tape,m2.but.output.trans h.below.output,Nat.le_trans s0 m2.but.size,fun i hi=>(m2.but.block i (Nat.lt_of_lt_of_le hi s0) fun q=>?_).trans (h.below.block i hi)⟩,fun x q=>?_⟩
 ·rcases m2.own g q with k | k
  ·exact h.free g hg k
  ·have:=(World.ownsRow.lt h.own g hg).2;omega
 ·have:=h.far i q;omega
 ·rcases m2.own x q with k | k
  ·exact h.far x k
  ·omega
theorem Rest.new {w W W':World} {rs:List Rp} {va:Value} {G:List Opn} {b:Nat} {cl:Int} (h:Rest w W rs va G) (hb:Below W.heap.size W W') (hl:W.heap.size≤b) (hr:RowIs W' b 118 7 (rep7 0 cl (.pointer none) (.slice none 0 0) 0 (.slice none 0 0))) (hE:Env w) (hg:15≤w.heap.size):Rest w W' (rs++[⟨b,cl,.slice none 0 0,.nil,[]⟩]) va G:=by
 have s0:=h.below.size
 have h':=h.kept hb
 refine ⟨h.many.more hb hl hr (hE.below h'.below) (by omega),h'.own,fun g e q=>?_,h'.below,fun x q=>?_⟩
 ·rcases inR_snoc q with k | k | k
  ·exact h.free g e k
  ·have:=(World.ownsRow.lt h.own g e).2
   have k:g=b:=k
   omega
  ·cases k
 ·rcases inR_snoc q with k | k | k
  ·exact h.far x k
  ·have k:x=b:=k
   omega
  ·cases k
theorem Rest.start {w w0 w1 W:World} {rs0 rs:List Rp} {vl va:Value} {G:List Opn} (hb0:Below w.heap.size w w0) (hN:NewS w0 w1 rs0 vl) (hH:HistS rs0 w1 W G rs va G):Rest w W [] va G:=by
 have s0:=hb0.size
 have s1:=hN.below.size
 have hb1:Below w.heap.size w w1:=hb0.trans (hN.below.mono s0)
 refine ⟨⟨fun _ q=>(by cases q),fun _ _ q=>(by cases q)⟩,own_base hH.own (by omega),fun g _ ⟨r,q,_⟩=>(by cases q),⟨hH.moved.but.os.trans hb1.os,hH.moved.but.tape.trans hb1.tape,hH.moved.but.output.trans hb1.output,Nat.le_trans hb1.size hH.moved.but.size,fun i hi=>(hH.moved.but.block i (by omega) fun ⟨r,hr,e⟩=>?_).trans (hb1.block i hi)⟩,fun x ⟨r,q,_⟩=>(by cases q)⟩
 obtain ⟨j,hj,rfl⟩:=List.mem_iff_getElem.1 hr
 rcases e with e | e
 ·have:=hN.far _ (List.getElem_mem hj);omega
 ·rw [(hN.cl j hj).2.2.2] at e;cases e
theorem hist_start {w w1:World} {rs0:List Rp} {vl:Value} (hN:NewS w w1 rs0 vl) (hl:rs0.length=3):HistS rs0 w1 w1 [] rs0 (.slice none 0 0) []:=
 ⟨hN.many,Moved.refl _ _,hl,fun j hj=>by obtain ⟨e1,e2,e3,-⟩:=hN.cl j hj;rw [e2,e3];exact ⟨RepOk.nil _,e1⟩,.nil,⟨rfl,Or.inl ⟨rfl,rfl⟩⟩,fun g e=>by cases e⟩
theorem NewS.cells {w w1:World} {rs0:List Rp} {vl:Value} (hN:NewS w w1 rs0 vl) (hl:rs0.length=3):∃ gl cap,vl=.slice (some ⟨gl,0,none⟩) 3 cap∧(∀ j (h:j < rs0.length),w1.cell? ⟨gl,j,none⟩=some (.pointer (some ⟨rs0[j].b,0,none⟩)))∧¬ InR rs0 gl:=by
 have hfree:=hN.free
 have ho:=hN.own
 rcases ho.2 with ⟨-,q⟩ | ⟨g,cap,cur,e,-⟩
 ·omega
 ·subst e
  refine ⟨g,cap,by rw [hl],fun j hj=>?_,hfree g rfl⟩
  have:=ho.cells (g:=g) rfl j (.pointer (some ⟨rs0[j].b,0,none⟩)) (by unfold ptrR;simp [hj])
  rwa [addN',Nat.zero_add] at this
theorem EdsIs.below {w w':World} {a:Option Addr} {es:List Ed} (h:EdsIs w a es) (hb:Below w.heap.size w w'):EdsIs w' a es:=by
 rcases h with h | ⟨g,off,e,h⟩
 ·exact Or.inl h
 ·exact Or.inr ⟨g,off,e,fun i hi j hj=>by have q:=h i hi j hj;exact (hb.cell (block_lt_of_cell q)).trans q⟩
theorem EdsIs.far {w w0 w1:World} {a:Option Addr} {es:List Ed} {rs0:List Rp} {vl:Value} (h:EdsIs w a es) (hb:Below w.heap.size w w0) (hN:NewS w0 w1 rs0 vl):es=[]∨∀ g off,a=some ⟨g,off,none⟩→¬ InR rs0 g:=by
 rcases h with h | ⟨g,off,e,h⟩
 ·exact Or.inl h
 ·rcases Nat.eq_zero_or_pos es.length with q | q
  ·exact Or.inl (List.length_eq_zero_iff.1 q)
  ·refine Or.inr fun g' off' e' ⟨r,hr,k⟩=>?_
   rw [e] at e'
   cases e'
   have hlt:=block_lt_of_cell (h 0 q 0 (by omega))
   have s0:=hb.size
   obtain ⟨j,hj,rfl⟩:=List.mem_iff_getElem.1 hr
   have hlt:g < w.heap.size:=hlt
   rcases k with k | k
   ·have:=hN.far _ (List.getElem_mem hj);omega
   ·rw [(hN.cl j hj).2.2.2] at k;cases k
theorem Rest.tell {w W:World} {b:Nat} {v:Value} {t:Tr} {va:Value} {G:List Opn} (h:Rest w W [⟨b,9,v,t,[]⟩] va G) (hG:Hist G) {i:Nat} (hi:i < G.length) (ht:t.list=setOf (G.take i)) :
  Calls Tryz.prog 21 #[.pointer (some ⟨b,0,none⟩),.agg #[.int .i64 G[i].kd,.int .u32 G[i].cl,.int .u32 G[i].ck,.int .u32 G[i].st,.int .u64 G[i].rf,.int .i32 G[i].ch]] W fun e w'=>e=.returned (.int .i64 0)∧∃ v' t',t'.list=setOf (G.take (i+1))∧Rest w w' [⟨b,9,v',t',[]⟩] va G∧But (InR [⟨b,9,v,t,[]⟩]) W w':=by
 have st:=hG.step hi
 have hO:One W b 9 v t []:=h.many.all _ (List.mem_singleton.2 rfl)
 refine (hO.addL G[i] (okT st.ok)).mono ?_
 rw [ht,st.add]
 rintro e w' ⟨rfl,v',t',a⟩
 refine ⟨rfl,v',t',a.list.trans (setOf_next hi).symm,h.put (i:=0) (Nat.succ_pos _) a,?_⟩
 exact (h.many.put (i:=0) (Nat.succ_pos _) a).2.but
structure Fnd (w W:World) (b:Nat) (v:Value) (t:Tr) (va:Value) (G:List Opn) (g1 c1 g2 c2:Nat) (was now:List Int):Prop where
 rest:Rest w W [⟨b,9,v,t,[]⟩] va G
 was:Runes W (.slice (some ⟨g1,0,none⟩) was.length c1) was
 now:Runes W (.slice (some ⟨g2,0,none⟩) now.length c2) now
theorem Fnd.below {w W W':World} {b:Nat} {v:Value} {t:Tr} {va:Value} {G:List Opn} {g1 c1 g2 c2:Nat} {was now:List Int} (h:Fnd w W b v t va G g1 c1 g2 c2 was now) (hb:Below W.heap.size W W'):Fnd w W' b v t va G g1 c1 g2 c2 was now:=
 ⟨h.rest.kept hb,h.was.below hb,h.now.below hb⟩
theorem ownO_cells {w:World} {B g n cap:Nat} {os:List Opn} (h:OwnO w B (.slice (some ⟨g,0,none⟩) n cap) os) {i:Nat} (hi:i < os.length):w.cell? ⟨g,i*6,none⟩=some (.int .i64 os[i].kd)∧w.cell? ⟨g,i*6+1,none⟩=some (.int .u32 os[i].cl)∧w.cell? ⟨g,i*6+2,none⟩=some (.int .u32 os[i].ck)∧w.cell? ⟨g,i*6+3,none⟩=some (.int .u32 os[i].st)∧w.cell? ⟨g,i*6+4,none⟩=some (.int .u64 os[i].rf)∧w.cell? ⟨g,i*6+5,none⟩=some (.int .i32 os[i].ch):=by
 have:=(OwnO.at0 h).cells hi
 simp only [Nat.zero_add] at this
 exact this
theorem ownO_some {w:World} {B n:Nat} {a:Option Addr} {c:Nat} {os:List Opn} (h:OwnO w B (.slice a n c) os) (h0:0 < os.length):∃ g,a=some ⟨g,0,none⟩:=by
 rcases h.2 with ⟨-,q⟩ | ⟨g,cap,cur,e,-⟩
 ·omega
 ·simp only [Value.slice.injEq] at e
  exact ⟨g,e.1⟩
structure Coll (w W:World) (rs:List Rp) (va:Value) (G:List Opn) (vs:Value) (S:List Opn):Prop where
 rest:Rest w W rs va G
 own:OwnO W w.heap.size vs S
 free:∀ g,vs.ownBlock=some g→¬ InR rs g∧va.ownBlock≠some g
theorem Coll.below {w W W':World} {rs:List Rp} {va vs:Value} {G S:List Opn} (h:Coll w W rs va G vs S) (hb:Below W.heap.size W W'):Coll w W' rs va G vs S:=⟨h.rest.kept hb,ownO_keep h.own hb,h.free⟩
theorem Coll.put {w W W':World} {rs:List Rp} {va vs:Value} {G S:List Opn} (h:Coll w W rs va G vs S) {i:Nat} (hi:i < rs.length) {os' ws':List Opn} {v':Value} {t':Tr} (a:After W W' rs[i].b rs[i].cl rs[i].v os' ws' v' t'):Coll w W' (rs.set i ⟨rs[i].b,rs[i].cl,v',t',ws'⟩) va G vs S:=by
 have m2:=(h.rest.many.put hi a).2
 refine ⟨h.rest.put hi a,own_frame h.own fun g hg=>m2.but.block g (World.ownsRow.lt h.own g hg).2 (h.free g hg).1,fun g hg=>⟨fun q=>?_,(h.free g hg).2⟩⟩
 rcases m2.own g q with k | k
 ·exact (h.free g hg).1 k
 ·have:=(World.ownsRow.lt h.own g hg).2;omega
theorem Coll.grown {w W W':World} {rs:List Rp} {va vs vs':Value} {G S S':List Opn} (h:Coll w W rs va G vs S) (hg0:15≤w.heap.size) (hg:W.grownBy W' vs.ownBlock) (hl:vs'.ownBlock=vs.ownBlock∨vs'.ownBlock=some W.heap.size) (ho:OwnO W' w.heap.size vs' S'):Coll w W' rs va G vs' S':=by
 have hb:But (fun x=>vs.ownBlock=some x) W W':=⟨hg.size,hg.os,hg.tape,hg.output,fun i hi hx=>hg.block i hi fun e=>hx e.symm⟩
 have hm:Many W' rs:=h.rest.many.frame hb fun x hx=>⟨(h.free x hx).1,noNode_own2 h.own (by decide) hx,Nat.le_trans hg0 (World.ownsRow.lt h.own x hx).1⟩
 have s0:=h.rest.below.size
 refine ⟨⟨hm,own_frame h.rest.own fun g e=>hb.block g (World.ownsRow.lt h.rest.own g e).2 fun q=>(h.free g q).2 e,h.rest.free,⟨hg.os.trans h.rest.below.os,hg.tape.trans h.rest.below.tape,hg.output.trans h.rest.below.output,Nat.le_trans s0 hg.size,fun i hi=>(hb.block i (Nat.lt_of_lt_of_le hi s0) fun e=>?_).trans (h.rest.below.block i hi)⟩,h.rest.far⟩,ho,fun g e=>?_⟩
 ·have:=(World.ownsRow.lt h.own i e).1;omega
 ·rcases hl with k | k
  ·exact h.free g (k▸e)
  ·rw [k] at e;cases e
   exact ⟨fun q=>by have:=h.rest.many.lt q;omega,fun q=>by have:=(World.ownsRow.lt h.rest.own _ q).2;omega⟩
theorem Coll.hear {w W:World} {r y:Rp} {b:Nat} {v:Value} {t:Tr} {va vs:Value} {G S:List Opn} (h:Coll w W [r,⟨b,5,v,t,[]⟩,y] va G vs S) (hG:Hist G) {i:Nat} (hi:i < G.length) (ht:t.list=setOf (G.take i)) :
  Calls Tryz.prog 21 #[.pointer (some ⟨b,0,none⟩),.agg #[.int .i64 G[i].kd,.int .u32 G[i].cl,.int .u32 G[i].ck,.int .u32 G[i].st,.int .u64 G[i].rf,.int .i32 G[i].ch]] W fun e w'=>e=.returned (.int .i64 0)∧∃ v' t',t'.list=setOf (G.take (i+1))∧Coll w w' [r,⟨b,5,v',t',[]⟩,y] va G vs S:=by
 have st:=hG.step hi
 have hO:One W b 5 v t []:=h.rest.many.all _ (List.mem_cons_of_mem _ (List.mem_cons_self ..))
 refine (hO.addL G[i] (okT st.ok)).mono ?_
 rw [ht,st.add]
 rintro e w' ⟨rfl,v',t',a⟩
 exact ⟨rfl,v',t',a.list.trans (setOf_next hi).symm,h.put (i:=1) (Nat.succ_lt_succ (Nat.succ_pos _)) a⟩
theorem op_new2 (w:World) (A:Obj) (cs:List Value):∀ j u,cs[j]?=some u→((w.alloc A).alloc (.cells cs.toArray 43)).cell? ((⟨w.heap.size+1,0,none⟩:Addr).add j)=some u:=by
 have:=op_new (w.alloc A) cs
 simpa using this
theorem str_ne {t s:ByteArray} (h:¬ t=s):(t.toList==s.toList)=false:=by
 rw [beq_eq_false_iff_ne,ne_eq,ByteArray.toList_eq,ByteArray.toList_eq]
 exact fun e=>h (ByteArray.ext (Array.ext' e))
theorem key_any (o:Opn) (h:o.ok=true) (w:World):Calls Tryz.prog 29 #[.agg #[.int .i64 o.kd,.int .u32 o.cl,.int .u32 o.ck,.int .u32 o.st,.int .u64 o.rf,.int .i32 o.ch]] w fun e w'=>e=.returned (.int .u64 o.key)∧Below w.heap.size w w':=by
 have hw:=okOp_w h (ok_rf h)
 have h1:0≤o.cl∧o.cl < 4294967296:=by have:=hw.cl;omega
 have h2:0≤o.ck∧o.ck < 4294967296:=by have:=hw.ck;omega
 have HK:Hid (∀ W,Calls Tryz.prog 57 #[.int .u32 o.cl,.int .u32 o.ck] W fun e w'=>e=.returned (.int .u64 (o.cl*1048576+o.ck))∧w'=W):=hidE fun W=>by
  go_enter Tryz.func57,Tryz.ntmps57
  go_wp2_with (go_at_call 105;refine (pKey_any _ _ h1 h2 _).mono ?_;rintro e w1 ⟨rfl,rfl⟩)
  go_ret
  exact ⟨rfl,rfl⟩
 clear hw h1 h2
 go_enter Tryz.func29,Tryz.ntmps29
 go_wp2_with (go_at_call 57;refine (HK.out _).mono ?_;rintro e w1 ⟨rfl,hw1⟩;obtain rfl:=hw1.symm)
 go_ret
 exact ⟨rfl,below1' _ _⟩
theorem steady_any (es:List Ed) (lo hi:Int) (a:Option Addr) (c:Nat) (w:World) (hes:EdsIs w a es) (heT:∀ e∈es,EdT e) (hlo:i64B lo) (hhi:i64B hi) (hen:es.length≤140737488355328) (hE:Env w) (hg:15≤w.heap.size):Calls Tryz.prog 8 #[.slice a es.length c,.int .i64 lo,.int .i64 hi] w fun e w'=>e=.returned (.bool true)∧Below w.heap.size w w':=by
 obtain ⟨i0,hi0,hz0,hz1,hz2⟩:=info_parts infoO
 have HK:=hidE (known_any w hE hg)
 have HX:=hidE (And.intro hes (And.intro heT hen))
 have HE:=hidE (And.intro hE hg)
 have HL:=hidE (And.intro hlo hhi)
 clear hes heT hE hg hlo hhi hen
 go_enter Tryz.func8,Tryz.ntmps8
 go_wp2_with (first | (go_at_call 20;refine (new_any 9 _).mono ?_;rintro e w4 ⟨hN,hbn⟩;unfold NewP at hN;rw [if_pos (by decide)] at hN;obtain ⟨b,rfl,hl4,hr4⟩:=hN;have H4:Hid (Rest w w4 [⟨b,9,.slice none 0 0,.nil,[]⟩] (.slice af G.length cf) G):=hidE (H3.out.2.new hbn hl4 hr4 HE.out.1 HE.out.2);clear hbn hl4 hr4) | (go_at_call 19;refine (history_any es a c rs0 gl cap w2 ((HX.out.1.below H1.out).below H2.out.2.1.below) HX.out.2.1 HX.out.2.2 (HX.out.1.far H1.out H2.out.2.1) H2.out.2.2.1 H2.out.2.2.2 (Nat.le_trans HE.out.2 (Nat.le_trans H1.out.size H2.out.2.1.below.size)) (hist_start H2.out.2.1 H2.out.1)).mono ?_;rintro e w3 ⟨G,rs,va,rfl,hH⟩;obtain ⟨af,cf,rfl⟩:=ownO_form hH.own;have H3:=hidE (And.intro hH.hist (Rest.start H1.out H2.out.2.1 hH));clear hH) | (go_at_call 18;refine (hands_any _ (HE.out.1.below H1.out) (Nat.le_trans HE.out.2 H1.out.size)).mono ?_;rintro e w2 ⟨rs0,vl,rfl,hlen,hN⟩;obtain ⟨gl,cap,rfl,hcl,hfl⟩:=hN.cells hlen;have H2:=hidE (And.intro hlen (And.intro hN (And.intro hcl hfl)));clear hlen hN hcl hfl) | (go_at_call 17;refine HK.out.mono ?_;rintro e w1 ⟨rfl,hb1⟩;have H1:=hidE hb1;clear hb1))
 have HG30:G.length≤30:=H3.out.1.len
 clear HK HX H1 H2
 go_loopw [14] (fun iv wr=>∃ (i:Nat) (v:Value) (t:Tr),i≤G.length∧iv=.int .i64 i∧t.list=setOf (G.take i)∧Hid (Rest w wr [⟨b,9,v,t,[]⟩] (.slice af G.length cf) G)) (fun iv _=>G.length-(intOf iv).toNat)
 case atStart=>exact ⟨0,_,_,Nat.zero_le _,rfl,rfl,H4⟩
 case round=>
  obtain ⟨i,v,t,hil,rfl,htl,HR⟩:=hrel
  have HT:=hidE htl
  clear H4 htl
  by_cases hlt:i < G.length
  ·have li:(i:Int) < (G.length:Int):=by omega
   obtain ⟨ga,rfl⟩:=ownO_some HR.out.own (by omega)
   obtain ⟨was,hwas⟩:∃ x,chL (setOf (G.take i))=x:=⟨_,rfl⟩
   obtain ⟨now,hnow⟩:∃ x,chL (setOf (G.take (i+1)))=x:=⟨_,rfl⟩
   have HD:Hid (Diff was now G[i]):=hidE (by rw [← hwas,← hnow,setOf_next hlt];exact step_diff (H3.out.1.step hlt))
   have HLw:Hid (Low was∧was.length≤120):=hidE ⟨hwas▸(H3.out.1.pre i).lowC,hwas▸chL_len (H3.out.1.pre i).set⟩
   have HLn:Hid (Low now∧now.length≤120):=hidE ⟨hnow▸(H3.out.1.pre (i+1)).lowC,hnow▸chL_len (H3.out.1.pre (i+1)).set⟩
   have HW:Hid (chL t.list=was):=hidE (by rw [HT.out];exact hwas)
   have HN:=hidE hnow
   clear hwas hnow
   have hw120:was.length≤120:=HLw.out.2
   have hn120:now.length≤120:=HLn.out.2
   go_upto_if 87 with (first | (go_at_call 26;have hq:=H5;clear hq;refine ((H5.out.2.1.many.all _ (List.mem_singleton.2 rfl)).textL (cs:=now) (show chL t5.list=now by rw [H5.out.1];exact HN.out) HLn.out.1).mono ?_;rintro e p6 ⟨rfl,hb6⟩;obtain ⟨cap2,p7,hcv2,hru2,hb7,-⟩:=conv_low p6 HLn.out.1 (by omega);have H7:Hid (Fnd w p7 b v5 t5 (.slice (some ⟨ga,0,none⟩) G.length cf) G p1.heap.size cap1 p6.heap.size cap2 was now):=hidE ⟨(H5.out.2.1.kept hb6).kept hb7,(H5.out.2.2.below hb6).below hb7,hru2⟩;obtain ⟨m0,-⟩:=ownO_cells H7.out.rest.own hlt;clear hb6 hb7 hru2) | (go_at_call 26;refine ((HR.out.many.all _ (List.mem_singleton.2 rfl)).textL (cs:=was) HW.out HLw.out.1).mono ?_;rintro e p1 ⟨rfl,hb1⟩;obtain ⟨cap1,p2,hcv1,hru1,hb2,-⟩:=conv_low p1 HLw.out.1 (by omega);have HA:=hidE (And.intro ((HR.out.kept hb1).kept hb2) (And.intro hru1 (show ¬ InR [⟨b,9,v,t,[]⟩] p1.heap.size from fun q=>by have:=HR.out.many.lt q;have:=hb1.size;omega)));obtain ⟨k0,k1,k2,k3,k4,k5⟩:=ownO_cells HA.out.1.own hlt;clear hb1 hb2 hru1) | (go_at_call 21;refine (HA.out.1.tell H3.out.1 hlt HT.out).mono ?_;rintro e p5 ⟨rfl,v5,t5,ht5,hR5,hbut5⟩;have H5:=hidE (And.intro ht5 (And.intro hR5 (HA.out.2.1.but hbut5 HA.out.2.2)));clear ht5 hR5 hbut5 k0 k1 k2 k3 k4 k5))
   clear HA HR
   by_cases hk:G[i].kd=1
   ·have HDi:=HD.out
    unfold Diff at HDi
    rw [if_pos hk] at HDi
    have HDh:=hidE HDi
    clear HDi
    go_wp2_with fail
    clear hk m0
    generalize (G[i].kd==1)=d87
    generalize G[i].kd=kd86
    go_loopw [18,19] (fun fv kv wk=>∃ (k:Nat) (f:Bool),k≤now.length∧fv=.bool f∧kv=.int .i64 k∧Hid (f=true∨∃ p,k≤p∧p < now.length∧now.eraseIdx p=was∧now[p]?=some G[i].ch)∧Hid (Fnd w wk b v5 t5 (.slice (some ⟨ga,0,none⟩) G.length cf) G p1.heap.size cap1 p6.heap.size cap2 was now)) (fun _ kv _=>now.length-(intOf kv).toNat)
    case atStart=>exact ⟨0,false,Nat.zero_le _,rfl,rfl,hidE (Or.inr (by obtain ⟨-,p,q⟩:=HDh.out;exact ⟨p,Nat.zero_le _,q⟩)),H7⟩
    case round=>
     obtain ⟨k,f,hk0,rfl,rfl,HQ,HI⟩:=hrel
     clear H7
     by_cases hk2:k < now.length
     ·have lk:(k:Int) < (now.length:Int):=by omega
      have z0:(0:Int)≤(k:Int):=by omega
      cases f with
      | true=>
       go_wp2_with fail
       refine wp_region_held_drew (S:=fun W=>Fnd w W b v5 t5 (.slice (some ⟨ga,0,none⟩) G.length cf) G p1.heap.size cap1 p6.heap.size cap2 was now) (by kernel_rfl) (HI.out.below (drew_below rfl)) (fun hHeld=>?_)
       generalize hwD:World.drew _=wD at hHeld ⊢
       have HI:=hidE hHeld
       clear hwD
       refine wpAnyH_take (i:=0) (oi:={ dst:=some 94,op:=_,type:=_,pos:=_,after:=_,guard:=_ }) rfl (by kernel_rfl) (by kernel_rfl) (by kernel_rfl) (fun _ _ _ h=>h) (Or.inl ⟨by rfl,fun w _=>by go_simp;rfl⟩) hHeld ?_
       simp only [Act.put,List.setIfInBounds_toArray,List.set_cons_zero,List.set_cons_succ]
       refine wpAnyH_take (i:=1) (oi:={ dst:=some 95,op:=_,type:=_,pos:=_,after:=_,guard:=_ }) rfl (by kernel_rfl) (by kernel_rfl) (by kernel_rfl) (fun _ _ _ h=>h) (Or.inl ⟨by rfl,fun w _=>by go_simp;rfl⟩) hHeld ?_
       simp only [Act.put,List.setIfInBounds_toArray,List.set_cons_zero,List.set_cons_succ]
       refine wpAnyH_take (i:=2) (oi:={ dst:=some 96,op:=_,type:=_,pos:=_,after:=_,guard:=_ }) rfl (by kernel_rfl) (by kernel_rfl) (by kernel_rfl) (fun _ _ _ h=>h) (Or.inr ⟨by rfl,rfl⟩) hHeld ?_
       simp only [Act.put,List.setIfInBounds_toArray,List.set_cons_zero,List.set_cons_succ]
       refine wpAnyH_take (i:=3) (oi:={ dst:=some 97,op:=_,type:=_,pos:=_,after:=_,guard:=_ }) rfl (by kernel_rfl) (by kernel_rfl) (by kernel_rfl) (fun _ _ _ h=>h) (Or.inr ⟨by rfl,rfl⟩) hHeld ?_
       simp only [Act.put,List.setIfInBounds_toArray,List.set_cons_zero,List.set_cons_succ]
       refine wpAnyH_take (i:=4) (oi:={ dst:=some 98,op:=_,type:=_,pos:=_,after:=_,guard:=_ }) rfl (by kernel_rfl) (by kernel_rfl) (by kernel_rfl) (fun _ _ _ h=>h) (Or.inr ⟨by rfl,rfl⟩) hHeld ?_
       simp only [Act.put,List.setIfInBounds_toArray,List.set_cons_zero,List.set_cons_succ]
       refine wpAnyH_take (i:=5) (oi:={ dst:=some 99,op:=_,type:=_,pos:=_,after:=_,guard:=_ }) rfl (by kernel_rfl) (by kernel_rfl) (by kernel_rfl) (fun _ _ _ h=>h) (Or.inr ⟨by rfl,rfl⟩) hHeld ?_
       simp only [Act.put,List.setIfInBounds_toArray,List.set_cons_zero,List.set_cons_succ]
       refine wpAnyH_take (i:=6) (oi:={ dst:=some 100,op:=_,type:=_,pos:=_,after:=_,guard:=_ }) rfl (by kernel_rfl) (by kernel_rfl) (by kernel_rfl) (fun _ _ _ h=>h) (Or.inr ⟨by rfl,rfl⟩) hHeld ?_
       simp only [Act.put,List.setIfInBounds_toArray,List.set_cons_zero,List.set_cons_succ]
       refine wpAnyH_take (i:=7) (oi:={ dst:=some 101,op:=_,type:=_,pos:=_,after:=_,guard:=_ }) rfl (by kernel_rfl) (by kernel_rfl) (by kernel_rfl) (fun _ _ _ h=>h) (Or.inr ⟨by rfl,rfl⟩) hHeld ?_
       simp only [Act.put,List.setIfInBounds_toArray,List.set_cons_zero,List.set_cons_succ]
       refine wpAnyH_take (i:=8) (oi:={ dst:=some 102,op:=_,type:=_,pos:=_,after:=_,guard:=_ }) rfl (by kernel_rfl) (by kernel_rfl) (by kernel_rfl) (fun _ _ _ h=>h) (Or.inr ⟨by rfl,rfl⟩) hHeld ?_
       simp only [Act.put,List.setIfInBounds_toArray,List.set_cons_zero,List.set_cons_succ]
       refine wpAnyH_take (i:=9) (oi:={ dst:=some 103,op:=_,type:=_,pos:=_,after:=_,guard:=_ }) rfl (by kernel_rfl) (by kernel_rfl) (by kernel_rfl) (fun _ _ _ h=>h) (Or.inr ⟨by rfl,rfl⟩) hHeld ?_
       simp only [Act.put,List.setIfInBounds_toArray,List.set_cons_zero,List.set_cons_succ]
       refine wpAnyH_take (i:=10) (oi:={ dst:=some 104,op:=_,type:=_,pos:=_,after:=_,guard:=_ }) rfl (by kernel_rfl) (by kernel_rfl) (by kernel_rfl) (fun _ _ _ h=>h) (Or.inr ⟨by rfl,rfl⟩) hHeld ?_
       simp only [Act.put,List.setIfInBounds_toArray,List.set_cons_zero,List.set_cons_succ]
       refine wpAnyH_take (i:=11) (oi:={ dst:=some 105,op:=_,type:=_,pos:=_,after:=_,guard:=_ }) rfl (by kernel_rfl) (by kernel_rfl) (by kernel_rfl) (fun _ _ _ h=>h) (Or.inr ⟨by rfl,rfl⟩) hHeld ?_
       simp only [Act.put,List.setIfInBounds_toArray,List.set_cons_zero,List.set_cons_succ]
       refine wpAnyH_take (i:=12) (oi:={ dst:=some 106,op:=_,type:=_,pos:=_,after:=_,guard:=_ }) rfl (by kernel_rfl) (by kernel_rfl) (by kernel_rfl) (fun _ _ _ h=>h) (Or.inr ⟨by rfl,rfl⟩) hHeld ?_
       simp only [Act.put,List.setIfInBounds_toArray,List.set_cons_zero,List.set_cons_succ]
       refine wpAnyH_take (i:=13) (oi:={ dst:=some 107,op:=_,type:=_,pos:=_,after:=_,guard:=_ }) rfl (by kernel_rfl) (by kernel_rfl) (by kernel_rfl) (fun _ _ _ h=>h) (Or.inr ⟨by rfl,rfl⟩) hHeld ?_
       simp only [Act.put,List.setIfInBounds_toArray,List.set_cons_zero,List.set_cons_succ]
       refine wpAnyH_take (i:=14) (oi:={ dst:=some 108,op:=_,type:=_,pos:=_,after:=_,guard:=_ }) rfl (by kernel_rfl) (by kernel_rfl) (by kernel_rfl) (fun _ _ _ h=>h) (Or.inr ⟨by rfl,rfl⟩) hHeld ?_
       simp only [Act.put,List.setIfInBounds_toArray,List.set_cons_zero,List.set_cons_succ]
       refine wpAnyH_take (i:=15) (oi:={ dst:=some 109,op:=_,type:=_,pos:=_,after:=_,guard:=_ }) rfl (by kernel_rfl) (by kernel_rfl) (by kernel_rfl) (fun _ _ _ h=>h) (Or.inr ⟨by rfl,rfl⟩) hHeld ?_
       simp only [Act.put,List.setIfInBounds_toArray,List.set_cons_zero,List.set_cons_succ]
       refine wpAnyH_take (i:=16) (oi:={ dst:=some 110,op:=_,type:=_,pos:=_,after:=_,guard:=_ }) rfl (by kernel_rfl) (by kernel_rfl) (by kernel_rfl) (fun _ _ _ h=>h) (Or.inr ⟨by rfl,rfl⟩) hHeld ?_
       simp only [Act.put,List.setIfInBounds_toArray,List.set_cons_zero,List.set_cons_succ]
       refine wpAnyH_take (i:=17) (oi:={ dst:=some 111,op:=_,type:=_,pos:=_,after:=_,guard:=_ }) rfl (by kernel_rfl) (by kernel_rfl) (by kernel_rfl) (fun _ _ _ h=>h) (Or.inr ⟨by rfl,rfl⟩) hHeld ?_
       simp only [Act.put,List.setIfInBounds_toArray,List.set_cons_zero,List.set_cons_succ]
       refine wpAnyH_take (i:=18) (oi:={ dst:=some 112,op:=_,type:=_,pos:=_,after:=_,guard:=_ }) rfl (by kernel_rfl) (by kernel_rfl) (by kernel_rfl) (fun _ _ _ h=>h) (Or.inr ⟨by rfl,rfl⟩) hHeld ?_
       simp only [Act.put,List.setIfInBounds_toArray,List.set_cons_zero,List.set_cons_succ]
       refine wpAnyH_take (i:=19) (oi:={ dst:=some 113,op:=_,type:=_,pos:=_,after:=_,guard:=_ }) rfl (by kernel_rfl) (by kernel_rfl) (by kernel_rfl) (fun _ _ _ h=>h) (Or.inr ⟨by rfl,rfl⟩) hHeld ?_
       simp only [Act.put,List.setIfInBounds_toArray,List.set_cons_zero,List.set_cons_succ]
       refine wpAnyH_take (i:=20) (oi:={ dst:=some 114,op:=_,type:=_,pos:=_,after:=_,guard:=_ }) rfl (by kernel_rfl) (by kernel_rfl) (by kernel_rfl) (fun _ _ _ h=>h) (Or.inl ⟨by rfl,fun w _=>by go_simp;rfl⟩) hHeld ?_
       simp only [Act.put,List.setIfInBounds_toArray,List.set_cons_zero,List.set_cons_succ]
       refine wpAnyH_ready (rs:=[21]) (by kernel_rfl) (by simp) (AllReadyH.cons (o:={ dst:=some 18,op:=_,type:=_,pos:=_,after:=_,guard:=_ }) rfl (fun K hK=>?_) AllReadyH.nil)
       go_simp
       refine hK.out _ _ hHeld (fun hHeld=>?_)
       clear hK K
       refine wpAnyH_done (by kernel_rfl) ?_ _
       clear hHeld
       go_wp2_with fail
       go_roundw
       case rel=>exact ⟨k+1,true,hk2,rfl,by go_num,hidE (Or.inl rfl),HI⟩
       case measure=>simp [intOf];omega
      | false=>
       obtain ⟨p,q1,q2,q3,q4⟩:=HQ.out.resolve_left (by decide)
       have HP:=hidE (And.intro q1 (And.intro q2 (And.intro q3 q4)))
       clear q1 q2 q3 q4
       by_cases he:now.eraseIdx k=was
       ·obtain ⟨ch,hch⟩:∃ ch,now[k]?=some ch:=⟨now[k],List.getElem?_eq_getElem hk2⟩
        have Hch:=hidE hch
        have He:=hidE he
        clear hch he
        by_cases hc:ch=G[i].ch
        ·subst hc
         go_wp2_with fail
         refine wp_region_held_drew (S:=fun W=>Fnd w W b v5 t5 (.slice (some ⟨ga,0,none⟩) G.length cf) G p1.heap.size cap1 p6.heap.size cap2 was now) (by kernel_rfl) (HI.out.below (drew_below rfl)) (fun hHeld=>?_)
         generalize hwD:World.drew _=wD at hHeld ⊢
         have HI:=hidE hHeld
         clear hwD
         refine wpAnyH_take (i:=0) (oi:={ dst:=some 94,op:=_,type:=_,pos:=_,after:=_,guard:=_ }) rfl (by kernel_rfl) (by kernel_rfl) (by kernel_rfl) (fun _ _ _ h=>h) (Or.inl ⟨by rfl,fun w _=>by go_simp;rfl⟩) hHeld ?_
         simp only [Act.put,List.setIfInBounds_toArray,List.set_cons_zero,List.set_cons_succ]
         refine wpAnyH_take (i:=1) (oi:={ dst:=some 95,op:=_,type:=_,pos:=_,after:=_,guard:=_ }) rfl (by kernel_rfl) (by kernel_rfl) (by kernel_rfl) (fun _ _ _ h=>h) (Or.inl ⟨by rfl,fun w _=>by go_simp;rfl⟩) hHeld ?_
         simp only [Act.put,List.setIfInBounds_toArray,List.set_cons_zero,List.set_cons_succ]
         refine wpAnyH_take (i:=2) (oi:={ dst:=some 96,op:=_,type:=_,pos:=_,after:=_,guard:=_ }) rfl (by kernel_rfl) (by kernel_rfl) (by kernel_rfl) (fun _ _ _ h=>h) (Or.inl ⟨by rfl,fun w _=>by go_simp;rfl⟩) hHeld ?_
         simp only [Act.put,List.setIfInBounds_toArray,List.set_cons_zero,List.set_cons_succ]
         refine wpAnyH_take (i:=3) (oi:={ dst:=some 97,op:=_,type:=_,pos:=_,after:=_,guard:=_ }) rfl (by kernel_rfl) (by kernel_rfl) (by kernel_rfl) (fun _ _ _ h=>h) (Or.inl ⟨by rfl,fun w _=>by go_simp;rfl⟩) hHeld ?_
         simp only [Act.put,List.setIfInBounds_toArray,List.set_cons_zero,List.set_cons_succ]
         refine wpAnyH_take (i:=5) (oi:={ dst:=some 99,op:=_,type:=_,pos:=_,after:=_,guard:=_ }) rfl (by kernel_rfl) (by kernel_rfl) (by kernel_rfl) (fun _ _ _ h=>h) (Or.inl ⟨by rfl,fun w _=>by go_simp;rfl⟩) hHeld ?_
         simp only [Act.put,List.setIfInBounds_toArray,List.set_cons_zero,List.set_cons_succ]
         refine wpAnyH_take (i:=6) (oi:={ dst:=some 100,op:=_,type:=_,pos:=_,after:=_,guard:=_ }) rfl (by kernel_rfl) (by kernel_rfl) (by kernel_rfl) (fun _ _ _ h=>h) (Or.inl ⟨by rfl,fun W hS=>by have hq:=str_runes W hS.was;go_simp;rfl⟩) hHeld ?_
         simp only [Act.put,List.setIfInBounds_toArray,List.set_cons_zero,List.set_cons_succ]
         refine wpAnyH_ready (rs:=[4]) (by kernel_rfl) (by simp) (AllReadyH.cons (o:={ dst:=some 98,op:=_,type:=_,pos:=_,after:=_,guard:=_ }) rfl (fun K hK=>?_) AllReadyH.nil)
         go_simp
         refine (without_eq hHeld.now hk2 He.out).mono ?_
         rintro e w8 ⟨rfl,hb8⟩
         have HI:=hidE (HI.out.below hb8)
         refine hK.out _ _ HI.out (fun hHeld=>?_)
         clear hK K hb8
         refine wpAnyH_take (i:=7) (oi:={ dst:=some 101,op:=_,type:=_,pos:=_,after:=_,guard:=_ }) rfl (by kernel_rfl) (by kernel_rfl) (by kernel_rfl) (fun _ _ _ h=>h) (Or.inl ⟨by rfl,fun w _=>by go_simp;rfl⟩) hHeld ?_
         simp only [Act.put,List.setIfInBounds_toArray,List.set_cons_zero,List.set_cons_succ]
         refine wpAnyH_take (i:=8) (oi:={ dst:=some 102,op:=_,type:=_,pos:=_,after:=_,guard:=_ }) rfl (by kernel_rfl) (by kernel_rfl) (by kernel_rfl) (fun _ _ _ h=>h) (Or.inl ⟨by rfl,fun w _=>by go_simp;rfl⟩) hHeld ?_
         simp only [Act.put,List.setIfInBounds_toArray,List.set_cons_zero,List.set_cons_succ]
         refine wpAnyH_take (i:=9) (oi:={ dst:=some 103,op:=_,type:=_,pos:=_,after:=_,guard:=_ }) rfl (by kernel_rfl) (by kernel_rfl) (by kernel_rfl) (fun _ _ _ h=>h) (Or.inl ⟨by rfl,fun w _=>by go_simp;rfl⟩) hHeld ?_
         simp only [Act.put,List.setIfInBounds_toArray,List.set_cons_zero,List.set_cons_succ]
         refine wpAnyH_take (i:=10) (oi:={ dst:=some 104,op:=_,type:=_,pos:=_,after:=_,guard:=_ }) rfl (by kernel_rfl) (by kernel_rfl) (by kernel_rfl) (fun _ _ _ h=>h) (Or.inl ⟨by rfl,fun w _=>by go_simp;rfl⟩) hHeld ?_
         simp only [Act.put,List.setIfInBounds_toArray,List.set_cons_zero,List.set_cons_succ]
         refine wpAnyH_take (i:=11) (oi:={ dst:=some 105,op:=_,type:=_,pos:=_,after:=_,guard:=_ }) rfl (by kernel_rfl) (by kernel_rfl) (by kernel_rfl) (fun _ _ _ h=>h) (Or.inl ⟨by rfl,fun w _=>by go_simp;rfl⟩) hHeld ?_
         simp only [Act.put,List.setIfInBounds_toArray,List.set_cons_zero,List.set_cons_succ]
         refine wpAnyH_take (i:=12) (oi:={ dst:=some 106,op:=_,type:=_,pos:=_,after:=_,guard:=_ }) rfl (by kernel_rfl) (by kernel_rfl) (by kernel_rfl) (fun _ _ _ h=>h) (Or.inl ⟨by rfl,fun W hS=>by have hq:=runes_at hS.now Hch.out;go_simp;rfl⟩) hHeld ?_
         simp only [Act.put,List.setIfInBounds_toArray,List.set_cons_zero,List.set_cons_succ]
         refine wpAnyH_take (i:=13) (oi:={ dst:=some 107,op:=_,type:=_,pos:=_,after:=_,guard:=_ }) rfl (by kernel_rfl) (by kernel_rfl) (by kernel_rfl) (fun _ _ _ h=>h) (Or.inl ⟨by rfl,fun w _=>by go_simp;rfl⟩) hHeld ?_
         simp only [Act.put,List.setIfInBounds_toArray,List.set_cons_zero,List.set_cons_succ]
         refine wpAnyH_take (i:=14) (oi:={ dst:=some 108,op:=_,type:=_,pos:=_,after:=_,guard:=_ }) rfl (by kernel_rfl) (by kernel_rfl) (by kernel_rfl) (fun _ _ _ h=>h) (Or.inl ⟨by rfl,fun w _=>by go_simp;rfl⟩) hHeld ?_
         simp only [Act.put,List.setIfInBounds_toArray,List.set_cons_zero,List.set_cons_succ]
         refine wpAnyH_take (i:=15) (oi:={ dst:=some 109,op:=_,type:=_,pos:=_,after:=_,guard:=_ }) rfl (by kernel_rfl) (by kernel_rfl) (by kernel_rfl) (fun _ _ _ h=>h) (Or.inl ⟨by rfl,fun w _=>by go_simp;rfl⟩) hHeld ?_
         simp only [Act.put,List.setIfInBounds_toArray,List.set_cons_zero,List.set_cons_succ]
         refine wpAnyH_take (i:=16) (oi:={ dst:=some 110,op:=_,type:=_,pos:=_,after:=_,guard:=_ }) rfl (by kernel_rfl) (by kernel_rfl) (by kernel_rfl) (fun _ _ _ h=>h) (Or.inl ⟨by rfl,fun w _=>by go_simp;rfl⟩) hHeld ?_
         simp only [Act.put,List.setIfInBounds_toArray,List.set_cons_zero,List.set_cons_succ]
         refine wpAnyH_take (i:=17) (oi:={ dst:=some 111,op:=_,type:=_,pos:=_,after:=_,guard:=_ }) rfl (by kernel_rfl) (by kernel_rfl) (by kernel_rfl) (fun _ _ _ h=>h) (Or.inl ⟨by rfl,fun W hS=>by obtain ⟨m0,m1,m2,m3,m4,m5⟩:=ownO_cells hS.rest.own hlt;go_simp;rfl⟩) hHeld ?_
         simp only [Act.put,List.setIfInBounds_toArray,List.set_cons_zero,List.set_cons_succ]
         refine wpAnyH_take (i:=18) (oi:={ dst:=some 112,op:=_,type:=_,pos:=_,after:=_,guard:=_ }) rfl (by kernel_rfl) (by kernel_rfl) (by kernel_rfl) (fun _ _ _ h=>h) (Or.inl ⟨by rfl,fun w _=>by go_simp;rfl⟩) hHeld ?_
         simp only [Act.put,List.setIfInBounds_toArray,List.set_cons_zero,List.set_cons_succ]
         refine wpAnyH_take (i:=19) (oi:={ dst:=some 113,op:=_,type:=_,pos:=_,after:=_,guard:=_ }) rfl (by kernel_rfl) (by kernel_rfl) (by kernel_rfl) (fun _ _ _ h=>h) (Or.inl ⟨by rfl,fun w _=>by go_simp;rfl⟩) hHeld ?_
         simp only [Act.put,List.setIfInBounds_toArray,List.set_cons_zero,List.set_cons_succ]
         refine wpAnyH_take (i:=20) (oi:={ dst:=some 114,op:=_,type:=_,pos:=_,after:=_,guard:=_ }) rfl (by kernel_rfl) (by kernel_rfl) (by kernel_rfl) (fun _ _ _ h=>h) (Or.inl ⟨by rfl,fun w _=>by go_simp;rfl⟩) hHeld ?_
         simp only [Act.put,List.setIfInBounds_toArray,List.set_cons_zero,List.set_cons_succ]
         refine wpAnyH_ready (rs:=[21]) (by kernel_rfl) (by simp) (AllReadyH.cons (o:={ dst:=some 18,op:=_,type:=_,pos:=_,after:=_,guard:=_ }) rfl (fun K hK=>?_) AllReadyH.nil)
         go_simp
         refine hK.out _ _ hHeld (fun hHeld=>?_)
         clear hK K
         refine wpAnyH_done (by kernel_rfl) ?_ _
         clear hHeld
         go_wp2_with fail
         go_roundw
         case rel=>exact ⟨k+1,true,hk2,rfl,by go_num,hidE (Or.inl rfl),HI⟩
         case measure=>simp [intOf];omega
        ·have Hc:=hidE hc
         clear hc
         go_wp2_with fail
         refine wp_region_held_drew (S:=fun W=>Fnd w W b v5 t5 (.slice (some ⟨ga,0,none⟩) G.length cf) G p1.heap.size cap1 p6.heap.size cap2 was now) (by kernel_rfl) (HI.out.below (drew_below rfl)) (fun hHeld=>?_)
         generalize hwD:World.drew _=wD at hHeld ⊢
         have HI:=hidE hHeld
         clear hwD
         refine wpAnyH_take (i:=0) (oi:={ dst:=some 94,op:=_,type:=_,pos:=_,after:=_,guard:=_ }) rfl (by kernel_rfl) (by kernel_rfl) (by kernel_rfl) (fun _ _ _ h=>h) (Or.inl ⟨by rfl,fun w _=>by go_simp;rfl⟩) hHeld ?_
         simp only [Act.put,List.setIfInBounds_toArray,List.set_cons_zero,List.set_cons_succ]
         refine wpAnyH_take (i:=1) (oi:={ dst:=some 95,op:=_,type:=_,pos:=_,after:=_,guard:=_ }) rfl (by kernel_rfl) (by kernel_rfl) (by kernel_rfl) (fun _ _ _ h=>h) (Or.inl ⟨by rfl,fun w _=>by go_simp;rfl⟩) hHeld ?_
         simp only [Act.put,List.setIfInBounds_toArray,List.set_cons_zero,List.set_cons_succ]
         refine wpAnyH_take (i:=2) (oi:={ dst:=some 96,op:=_,type:=_,pos:=_,after:=_,guard:=_ }) rfl (by kernel_rfl) (by kernel_rfl) (by kernel_rfl) (fun _ _ _ h=>h) (Or.inl ⟨by rfl,fun w _=>by go_simp;rfl⟩) hHeld ?_
         simp only [Act.put,List.setIfInBounds_toArray,List.set_cons_zero,List.set_cons_succ]
         refine wpAnyH_take (i:=3) (oi:={ dst:=some 97,op:=_,type:=_,pos:=_,after:=_,guard:=_ }) rfl (by kernel_rfl) (by kernel_rfl) (by kernel_rfl) (fun _ _ _ h=>h) (Or.inl ⟨by rfl,fun w _=>by go_simp;rfl⟩) hHeld ?_
         simp only [Act.put,List.setIfInBounds_toArray,List.set_cons_zero,List.set_cons_succ]
         refine wpAnyH_take (i:=5) (oi:={ dst:=some 99,op:=_,type:=_,pos:=_,after:=_,guard:=_ }) rfl (by kernel_rfl) (by kernel_rfl) (by kernel_rfl) (fun _ _ _ h=>h) (Or.inl ⟨by rfl,fun w _=>by go_simp;rfl⟩) hHeld ?_
         simp only [Act.put,List.setIfInBounds_toArray,List.set_cons_zero,List.set_cons_succ]
         refine wpAnyH_take (i:=6) (oi:={ dst:=some 100,op:=_,type:=_,pos:=_,after:=_,guard:=_ }) rfl (by kernel_rfl) (by kernel_rfl) (by kernel_rfl) (fun _ _ _ h=>h) (Or.inl ⟨by rfl,fun W hS=>by have hq:=str_runes W hS.was;go_simp;rfl⟩) hHeld ?_
         simp only [Act.put,List.setIfInBounds_toArray,List.set_cons_zero,List.set_cons_succ]
         refine wpAnyH_ready (rs:=[4]) (by kernel_rfl) (by simp) (AllReadyH.cons (o:={ dst:=some 98,op:=_,type:=_,pos:=_,after:=_,guard:=_ }) rfl (fun K hK=>?_) AllReadyH.nil)
         go_simp
         refine (without_eq hHeld.now hk2 He.out).mono ?_
         rintro e w8 ⟨rfl,hb8⟩
         have HI:=hidE (HI.out.below hb8)
         refine hK.out _ _ HI.out (fun hHeld=>?_)
         clear hK K hb8
         refine wpAnyH_take (i:=7) (oi:={ dst:=some 101,op:=_,type:=_,pos:=_,after:=_,guard:=_ }) rfl (by kernel_rfl) (by kernel_rfl) (by kernel_rfl) (fun _ _ _ h=>h) (Or.inl ⟨by rfl,fun w _=>by go_simp;rfl⟩) hHeld ?_
         simp only [Act.put,List.setIfInBounds_toArray,List.set_cons_zero,List.set_cons_succ]
         refine wpAnyH_take (i:=8) (oi:={ dst:=some 102,op:=_,type:=_,pos:=_,after:=_,guard:=_ }) rfl (by kernel_rfl) (by kernel_rfl) (by kernel_rfl) (fun _ _ _ h=>h) (Or.inl ⟨by rfl,fun w _=>by go_simp;rfl⟩) hHeld ?_
         simp only [Act.put,List.setIfInBounds_toArray,List.set_cons_zero,List.set_cons_succ]
         refine wpAnyH_take (i:=9) (oi:={ dst:=some 103,op:=_,type:=_,pos:=_,after:=_,guard:=_ }) rfl (by kernel_rfl) (by kernel_rfl) (by kernel_rfl) (fun _ _ _ h=>h) (Or.inl ⟨by rfl,fun w _=>by go_simp;rfl⟩) hHeld ?_
         simp only [Act.put,List.setIfInBounds_toArray,List.set_cons_zero,List.set_cons_succ]
         refine wpAnyH_take (i:=10) (oi:={ dst:=some 104,op:=_,type:=_,pos:=_,after:=_,guard:=_ }) rfl (by kernel_rfl) (by kernel_rfl) (by kernel_rfl) (fun _ _ _ h=>h) (Or.inl ⟨by rfl,fun w _=>by go_simp;rfl⟩) hHeld ?_
         simp only [Act.put,List.setIfInBounds_toArray,List.set_cons_zero,List.set_cons_succ]
         refine wpAnyH_take (i:=11) (oi:={ dst:=some 105,op:=_,type:=_,pos:=_,after:=_,guard:=_ }) rfl (by kernel_rfl) (by kernel_rfl) (by kernel_rfl) (fun _ _ _ h=>h) (Or.inl ⟨by rfl,fun w _=>by go_simp;rfl⟩) hHeld ?_
         simp only [Act.put,List.setIfInBounds_toArray,List.set_cons_zero,List.set_cons_succ]
         refine wpAnyH_take (i:=12) (oi:={ dst:=some 106,op:=_,type:=_,pos:=_,after:=_,guard:=_ }) rfl (by kernel_rfl) (by kernel_rfl) (by kernel_rfl) (fun _ _ _ h=>h) (Or.inl ⟨by rfl,fun W hS=>by have hq:=runes_at hS.now Hch.out;go_simp;rfl⟩) hHeld ?_
         simp only [Act.put,List.setIfInBounds_toArray,List.set_cons_zero,List.set_cons_succ]
         refine wpAnyH_take (i:=13) (oi:={ dst:=some 107,op:=_,type:=_,pos:=_,after:=_,guard:=_ }) rfl (by kernel_rfl) (by kernel_rfl) (by kernel_rfl) (fun _ _ _ h=>h) (Or.inl ⟨by rfl,fun w _=>by go_simp;rfl⟩) hHeld ?_
         simp only [Act.put,List.setIfInBounds_toArray,List.set_cons_zero,List.set_cons_succ]
         refine wpAnyH_take (i:=14) (oi:={ dst:=some 108,op:=_,type:=_,pos:=_,after:=_,guard:=_ }) rfl (by kernel_rfl) (by kernel_rfl) (by kernel_rfl) (fun _ _ _ h=>h) (Or.inl ⟨by rfl,fun w _=>by go_simp;rfl⟩) hHeld ?_
         simp only [Act.put,List.setIfInBounds_toArray,List.set_cons_zero,List.set_cons_succ]
         refine wpAnyH_take (i:=15) (oi:={ dst:=some 109,op:=_,type:=_,pos:=_,after:=_,guard:=_ }) rfl (by kernel_rfl) (by kernel_rfl) (by kernel_rfl) (fun _ _ _ h=>h) (Or.inl ⟨by rfl,fun w _=>by go_simp;rfl⟩) hHeld ?_
         simp only [Act.put,List.setIfInBounds_toArray,List.set_cons_zero,List.set_cons_succ]
         refine wpAnyH_take (i:=16) (oi:={ dst:=some 110,op:=_,type:=_,pos:=_,after:=_,guard:=_ }) rfl (by kernel_rfl) (by kernel_rfl) (by kernel_rfl) (fun _ _ _ h=>h) (Or.inl ⟨by rfl,fun w _=>by go_simp;rfl⟩) hHeld ?_
         simp only [Act.put,List.setIfInBounds_toArray,List.set_cons_zero,List.set_cons_succ]
         refine wpAnyH_take (i:=17) (oi:={ dst:=some 111,op:=_,type:=_,pos:=_,after:=_,guard:=_ }) rfl (by kernel_rfl) (by kernel_rfl) (by kernel_rfl) (fun _ _ _ h=>h) (Or.inl ⟨by rfl,fun W hS=>by obtain ⟨m0,m1,m2,m3,m4,m5⟩:=ownO_cells hS.rest.own hlt;go_simp;rfl⟩) hHeld ?_
         simp only [Act.put,List.setIfInBounds_toArray,List.set_cons_zero,List.set_cons_succ]
         refine wpAnyH_take (i:=18) (oi:={ dst:=some 112,op:=_,type:=_,pos:=_,after:=_,guard:=_ }) rfl (by kernel_rfl) (by kernel_rfl) (by kernel_rfl) (fun _ _ _ h=>h) (Or.inl ⟨by rfl,fun W hS=>by have hq:(ch==G[i].ch)=false:=beq_eq_false_iff_ne.2 Hc.out;go_simp;rfl⟩) hHeld ?_
         simp only [Act.put,List.setIfInBounds_toArray,List.set_cons_zero,List.set_cons_succ]
         refine wpAnyH_take (i:=19) (oi:={ dst:=some 113,op:=_,type:=_,pos:=_,after:=_,guard:=_ }) rfl (by kernel_rfl) (by kernel_rfl) (by kernel_rfl) (fun _ _ _ h=>h) (Or.inl ⟨by rfl,fun w _=>by go_simp;rfl⟩) hHeld ?_
         simp only [Act.put,List.setIfInBounds_toArray,List.set_cons_zero,List.set_cons_succ]
         refine wpAnyH_take (i:=20) (oi:={ dst:=some 114,op:=_,type:=_,pos:=_,after:=_,guard:=_ }) rfl (by kernel_rfl) (by kernel_rfl) (by kernel_rfl) (fun _ _ _ h=>h) (Or.inl ⟨by rfl,fun w _=>by go_simp;rfl⟩) hHeld ?_
         simp only [Act.put,List.setIfInBounds_toArray,List.set_cons_zero,List.set_cons_succ]
         refine wpAnyH_ready (rs:=[21]) (by kernel_rfl) (by simp) (AllReadyH.cons (o:={ dst:=some 18,op:=_,type:=_,pos:=_,after:=_,guard:=_ }) rfl (fun K hK=>?_) AllReadyH.nil)
         go_simp
         refine hK.out _ _ hHeld (fun hHeld=>?_)
         clear hK K
         refine wpAnyH_done (by kernel_rfl) ?_ _
         clear hHeld
         go_wp2_with fail
         go_roundw
         case rel=>exact ⟨k+1,false,hk2,rfl,by go_num,hidE (Or.inr ⟨p,Nat.lt_of_le_of_ne HP.out.1 (fun g=>Hc.out (by subst g;have q:=HP.out.2.2.2;rw [Hch.out] at q;exact Option.some.inj q)),HP.out.2⟩),HI⟩
         case measure=>simp [intOf];omega
       ·have hne:¬ lowS (now.eraseIdx k)=lowS was:=fun q=>he (lowS_inj (HLn.out.1.sub fun x hx=>List.mem_of_mem_eraseIdx hx) HLw.out.1 q)
        have He:=hidE he
        have Hne:=hidE hne
        clear he hne
        go_wp2_with fail
        refine wp_region_held_drew (S:=fun W=>Fnd w W b v5 t5 (.slice (some ⟨ga,0,none⟩) G.length cf) G p1.heap.size cap1 p6.heap.size cap2 was now) (by kernel_rfl) (HI.out.below (drew_below rfl)) (fun hHeld=>?_)
        generalize hwD:World.drew _=wD at hHeld ⊢
        have HI:=hidE hHeld
        clear hwD
        refine wpAnyH_take (i:=0) (oi:={ dst:=some 94,op:=_,type:=_,pos:=_,after:=_,guard:=_ }) rfl (by kernel_rfl) (by kernel_rfl) (by kernel_rfl) (fun _ _ _ h=>h) (Or.inl ⟨by rfl,fun w _=>by go_simp;rfl⟩) hHeld ?_
        simp only [Act.put,List.setIfInBounds_toArray,List.set_cons_zero,List.set_cons_succ]
        refine wpAnyH_take (i:=1) (oi:={ dst:=some 95,op:=_,type:=_,pos:=_,after:=_,guard:=_ }) rfl (by kernel_rfl) (by kernel_rfl) (by kernel_rfl) (fun _ _ _ h=>h) (Or.inl ⟨by rfl,fun w _=>by go_simp;rfl⟩) hHeld ?_
        simp only [Act.put,List.setIfInBounds_toArray,List.set_cons_zero,List.set_cons_succ]
        refine wpAnyH_take (i:=2) (oi:={ dst:=some 96,op:=_,type:=_,pos:=_,after:=_,guard:=_ }) rfl (by kernel_rfl) (by kernel_rfl) (by kernel_rfl) (fun _ _ _ h=>h) (Or.inl ⟨by rfl,fun w _=>by go_simp;rfl⟩) hHeld ?_
        simp only [Act.put,List.setIfInBounds_toArray,List.set_cons_zero,List.set_cons_succ]
        refine wpAnyH_take (i:=3) (oi:={ dst:=some 97,op:=_,type:=_,pos:=_,after:=_,guard:=_ }) rfl (by kernel_rfl) (by kernel_rfl) (by kernel_rfl) (fun _ _ _ h=>h) (Or.inl ⟨by rfl,fun w _=>by go_simp;rfl⟩) hHeld ?_
        simp only [Act.put,List.setIfInBounds_toArray,List.set_cons_zero,List.set_cons_succ]
        refine wpAnyH_take (i:=5) (oi:={ dst:=some 99,op:=_,type:=_,pos:=_,after:=_,guard:=_ }) rfl (by kernel_rfl) (by kernel_rfl) (by kernel_rfl) (fun _ _ _ h=>h) (Or.inl ⟨by rfl,fun w _=>by go_simp;rfl⟩) hHeld ?_
        simp only [Act.put,List.setIfInBounds_toArray,List.set_cons_zero,List.set_cons_succ]
        refine wpAnyH_take (i:=6) (oi:={ dst:=some 100,op:=_,type:=_,pos:=_,after:=_,guard:=_ }) rfl (by kernel_rfl) (by kernel_rfl) (by kernel_rfl) (fun _ _ _ h=>h) (Or.inl ⟨by rfl,fun W hS=>by have hq:=str_runes W hS.was;go_simp;rfl⟩) hHeld ?_
        simp only [Act.put,List.setIfInBounds_toArray,List.set_cons_zero,List.set_cons_succ]
        refine wpAnyH_ready (rs:=[4]) (by kernel_rfl) (by simp) (AllReadyH.cons (o:={ dst:=some 98,op:=_,type:=_,pos:=_,after:=_,guard:=_ }) rfl (fun K hK=>?_) AllReadyH.nil)
        go_simp
        refine (without_any now _ k _ hHeld.now hk2).mono ?_
        rintro e w8 ⟨rfl,hb8⟩
        have HI:=hidE (HI.out.below hb8)
        refine hK.out _ _ HI.out (fun hHeld=>?_)
        clear hK K hb8
        refine wpAnyH_take (i:=7) (oi:={ dst:=some 101,op:=_,type:=_,pos:=_,after:=_,guard:=_ }) rfl (by kernel_rfl) (by kernel_rfl) (by kernel_rfl) (fun _ _ _ h=>h) (Or.inl ⟨by rfl,fun W hS=>by have hq:((lowS (now.eraseIdx k)).toList==(lowS was).toList)=false:=str_ne Hne.out;go_simp;rfl⟩) hHeld ?_
        simp only [Act.put,List.setIfInBounds_toArray,List.set_cons_zero,List.set_cons_succ]
        refine wpAnyH_take (i:=8) (oi:={ dst:=some 102,op:=_,type:=_,pos:=_,after:=_,guard:=_ }) rfl (by kernel_rfl) (by kernel_rfl) (by kernel_rfl) (fun _ _ _ h=>h) (Or.inl ⟨by rfl,fun w _=>by go_simp;rfl⟩) hHeld ?_
        simp only [Act.put,List.setIfInBounds_toArray,List.set_cons_zero,List.set_cons_succ]
        refine wpAnyH_take (i:=9) (oi:={ dst:=some 103,op:=_,type:=_,pos:=_,after:=_,guard:=_ }) rfl (by kernel_rfl) (by kernel_rfl) (by kernel_rfl) (fun _ _ _ h=>h) (Or.inr ⟨by rfl,rfl⟩) hHeld ?_
        simp only [Act.put,List.setIfInBounds_toArray,List.set_cons_zero,List.set_cons_succ]
        refine wpAnyH_take (i:=10) (oi:={ dst:=some 104,op:=_,type:=_,pos:=_,after:=_,guard:=_ }) rfl (by kernel_rfl) (by kernel_rfl) (by kernel_rfl) (fun _ _ _ h=>h) (Or.inr ⟨by rfl,rfl⟩) hHeld ?_
        simp only [Act.put,List.setIfInBounds_toArray,List.set_cons_zero,List.set_cons_succ]
        refine wpAnyH_take (i:=11) (oi:={ dst:=some 105,op:=_,type:=_,pos:=_,after:=_,guard:=_ }) rfl (by kernel_rfl) (by kernel_rfl) (by kernel_rfl) (fun _ _ _ h=>h) (Or.inr ⟨by rfl,rfl⟩) hHeld ?_
        simp only [Act.put,List.setIfInBounds_toArray,List.set_cons_zero,List.set_cons_succ]
        refine wpAnyH_take (i:=12) (oi:={ dst:=some 106,op:=_,type:=_,pos:=_,after:=_,guard:=_ }) rfl (by kernel_rfl) (by kernel_rfl) (by kernel_rfl) (fun _ _ _ h=>h) (Or.inr ⟨by rfl,rfl⟩) hHeld ?_
        simp only [Act.put,List.setIfInBounds_toArray,List.set_cons_zero,List.set_cons_succ]
        refine wpAnyH_take (i:=13) (oi:={ dst:=some 107,op:=_,type:=_,pos:=_,after:=_,guard:=_ }) rfl (by kernel_rfl) (by kernel_rfl) (by kernel_rfl) (fun _ _ _ h=>h) (Or.inr ⟨by rfl,rfl⟩) hHeld ?_
        simp only [Act.put,List.setIfInBounds_toArray,List.set_cons_zero,List.set_cons_succ]
        refine wpAnyH_take (i:=14) (oi:={ dst:=some 108,op:=_,type:=_,pos:=_,after:=_,guard:=_ }) rfl (by kernel_rfl) (by kernel_rfl) (by kernel_rfl) (fun _ _ _ h=>h) (Or.inr ⟨by rfl,rfl⟩) hHeld ?_
        simp only [Act.put,List.setIfInBounds_toArray,List.set_cons_zero,List.set_cons_succ]
        refine wpAnyH_take (i:=15) (oi:={ dst:=some 109,op:=_,type:=_,pos:=_,after:=_,guard:=_ }) rfl (by kernel_rfl) (by kernel_rfl) (by kernel_rfl) (fun _ _ _ h=>h) (Or.inr ⟨by rfl,rfl⟩) hHeld ?_
        simp only [Act.put,List.setIfInBounds_toArray,List.set_cons_zero,List.set_cons_succ]
        refine wpAnyH_take (i:=16) (oi:={ dst:=some 110,op:=_,type:=_,pos:=_,after:=_,guard:=_ }) rfl (by kernel_rfl) (by kernel_rfl) (by kernel_rfl) (fun _ _ _ h=>h) (Or.inr ⟨by rfl,rfl⟩) hHeld ?_
        simp only [Act.put,List.setIfInBounds_toArray,List.set_cons_zero,List.set_cons_succ]
        refine wpAnyH_take (i:=17) (oi:={ dst:=some 111,op:=_,type:=_,pos:=_,after:=_,guard:=_ }) rfl (by kernel_rfl) (by kernel_rfl) (by kernel_rfl) (fun _ _ _ h=>h) (Or.inr ⟨by rfl,rfl⟩) hHeld ?_
        simp only [Act.put,List.setIfInBounds_toArray,List.set_cons_zero,List.set_cons_succ]
        refine wpAnyH_take (i:=18) (oi:={ dst:=some 112,op:=_,type:=_,pos:=_,after:=_,guard:=_ }) rfl (by kernel_rfl) (by kernel_rfl) (by kernel_rfl) (fun _ _ _ h=>h) (Or.inr ⟨by rfl,rfl⟩) hHeld ?_
        simp only [Act.put,List.setIfInBounds_toArray,List.set_cons_zero,List.set_cons_succ]
        refine wpAnyH_take (i:=19) (oi:={ dst:=some 113,op:=_,type:=_,pos:=_,after:=_,guard:=_ }) rfl (by kernel_rfl) (by kernel_rfl) (by kernel_rfl) (fun _ _ _ h=>h) (Or.inl ⟨by rfl,fun w _=>by go_simp;rfl⟩) hHeld ?_
        simp only [Act.put,List.setIfInBounds_toArray,List.set_cons_zero,List.set_cons_succ]
        refine wpAnyH_take (i:=20) (oi:={ dst:=some 114,op:=_,type:=_,pos:=_,after:=_,guard:=_ }) rfl (by kernel_rfl) (by kernel_rfl) (by kernel_rfl) (fun _ _ _ h=>h) (Or.inl ⟨by rfl,fun w _=>by go_simp;rfl⟩) hHeld ?_
        simp only [Act.put,List.setIfInBounds_toArray,List.set_cons_zero,List.set_cons_succ]
        refine wpAnyH_ready (rs:=[21]) (by kernel_rfl) (by simp) (AllReadyH.cons (o:={ dst:=some 18,op:=_,type:=_,pos:=_,after:=_,guard:=_ }) rfl (fun K hK=>?_) AllReadyH.nil)
        go_simp
        refine hK.out _ _ hHeld (fun hHeld=>?_)
        clear hK K
        refine wpAnyH_done (by kernel_rfl) ?_ _
        clear hHeld
        go_wp2_with fail
        go_roundw
        case rel=>exact ⟨k+1,false,hk2,rfl,by go_num,hidE (Or.inr ⟨p,Nat.lt_of_le_of_ne HP.out.1 (fun g=>He.out (g▸HP.out.2.2.1)),HP.out.2⟩),HI⟩
        case measure=>simp [intOf];omega
     ·have lk:¬ (k:Int) < (now.length:Int):=by omega
      obtain rfl:f=true:=HQ.out.resolve_right fun ⟨p,q1,q2,_⟩=>by omega
      go_wp2_with fail
      go_roundw
      case rel=>exact ⟨i+1,v5,t5,hlt,by go_num,H5.out.1,hidE HI.out.rest⟩
      case measure=>simp [intOf];omega
   ·have HDi:=HD.out
    unfold Diff at HDi
    rw [if_neg hk] at HDi
    have HDh:=hidE HDi
    clear HDi
    have hs1:=str_runes p7 H7.out.was
    have hs2:=str_runes p7 H7.out.now
    go_wp2_with fail
    clear hk m0 hs1 hs2
    generalize (G[i].kd==1)=d87
    generalize G[i].kd=kd86
    go_loopw [18,20] (fun fv kv wk=>∃ (k:Nat) (f:Bool),k≤was.length∧fv=.bool f∧kv=.int .i64 k∧Hid (f=true∨∃ p,k≤p∧p < was.length∧was.eraseIdx p=now)∧Hid (Fnd w wk b v5 t5 (.slice (some ⟨ga,0,none⟩) G.length cf) G p1.heap.size cap1 p6.heap.size cap2 was now)) (fun _ kv _=>was.length-(intOf kv).toNat)
    case atStart=>
     refine ⟨0,_,Nat.zero_le _,rfl,rfl,?_,H7⟩
     refine hidE ?_
     rcases HDh.out with q | ⟨p,q⟩
     ·left;subst q;simp
     ·exact Or.inr ⟨p,Nat.zero_le _,q⟩
    case round=>
     obtain ⟨k,f,hk0,rfl,rfl,HQ,HI⟩:=hrel
     clear H7
     by_cases hk2:k < was.length
     ·have lk:(k:Int) < (was.length:Int):=by omega
      have z0:(0:Int)≤(k:Int):=by omega
      cases f with
      | true=>
       go_wp2_with fail
       refine wp_region_held_drew (S:=fun W=>Fnd w W b v5 t5 (.slice (some ⟨ga,0,none⟩) G.length cf) G p1.heap.size cap1 p6.heap.size cap2 was now) (by kernel_rfl) (HI.out.below (drew_below rfl)) (fun hHeld=>?_)
       generalize hwD:World.drew _=wD at hHeld ⊢
       have HI:=hidE hHeld
       clear hwD
       refine wpAnyH_take (i:=0) (oi:={ dst:=some 126,op:=_,type:=_,pos:=_,after:=_,guard:=_ }) rfl (by kernel_rfl) (by kernel_rfl) (by kernel_rfl) (fun _ _ _ h=>h) (Or.inl ⟨by rfl,fun w _=>by go_simp;rfl⟩) hHeld ?_
       simp only [Act.put,List.setIfInBounds_toArray,List.set_cons_zero,List.set_cons_succ]
       refine wpAnyH_take (i:=1) (oi:={ dst:=some 127,op:=_,type:=_,pos:=_,after:=_,guard:=_ }) rfl (by kernel_rfl) (by kernel_rfl) (by kernel_rfl) (fun _ _ _ h=>h) (Or.inl ⟨by rfl,fun w _=>by go_simp;rfl⟩) hHeld ?_
       simp only [Act.put,List.setIfInBounds_toArray,List.set_cons_zero,List.set_cons_succ]
       refine wpAnyH_take (i:=2) (oi:={ dst:=some 128,op:=_,type:=_,pos:=_,after:=_,guard:=_ }) rfl (by kernel_rfl) (by kernel_rfl) (by kernel_rfl) (fun _ _ _ h=>h) (Or.inr ⟨by rfl,rfl⟩) hHeld ?_
       simp only [Act.put,List.setIfInBounds_toArray,List.set_cons_zero,List.set_cons_succ]
       refine wpAnyH_take (i:=3) (oi:={ dst:=some 129,op:=_,type:=_,pos:=_,after:=_,guard:=_ }) rfl (by kernel_rfl) (by kernel_rfl) (by kernel_rfl) (fun _ _ _ h=>h) (Or.inr ⟨by rfl,rfl⟩) hHeld ?_
       simp only [Act.put,List.setIfInBounds_toArray,List.set_cons_zero,List.set_cons_succ]
       refine wpAnyH_take (i:=4) (oi:={ dst:=some 130,op:=_,type:=_,pos:=_,after:=_,guard:=_ }) rfl (by kernel_rfl) (by kernel_rfl) (by kernel_rfl) (fun _ _ _ h=>h) (Or.inr ⟨by rfl,rfl⟩) hHeld ?_
       simp only [Act.put,List.setIfInBounds_toArray,List.set_cons_zero,List.set_cons_succ]
       refine wpAnyH_take (i:=5) (oi:={ dst:=some 131,op:=_,type:=_,pos:=_,after:=_,guard:=_ }) rfl (by kernel_rfl) (by kernel_rfl) (by kernel_rfl) (fun _ _ _ h=>h) (Or.inr ⟨by rfl,rfl⟩) hHeld ?_
       simp only [Act.put,List.setIfInBounds_toArray,List.set_cons_zero,List.set_cons_succ]
       refine wpAnyH_take (i:=6) (oi:={ dst:=some 132,op:=_,type:=_,pos:=_,after:=_,guard:=_ }) rfl (by kernel_rfl) (by kernel_rfl) (by kernel_rfl) (fun _ _ _ h=>h) (Or.inr ⟨by rfl,rfl⟩) hHeld ?_
       simp only [Act.put,List.setIfInBounds_toArray,List.set_cons_zero,List.set_cons_succ]
       refine wpAnyH_take (i:=7) (oi:={ dst:=some 133,op:=_,type:=_,pos:=_,after:=_,guard:=_ }) rfl (by kernel_rfl) (by kernel_rfl) (by kernel_rfl) (fun _ _ _ h=>h) (Or.inr ⟨by rfl,rfl⟩) hHeld ?_
       simp only [Act.put,List.setIfInBounds_toArray,List.set_cons_zero,List.set_cons_succ]
       refine wpAnyH_take (i:=8) (oi:={ dst:=some 134,op:=_,type:=_,pos:=_,after:=_,guard:=_ }) rfl (by kernel_rfl) (by kernel_rfl) (by kernel_rfl) (fun _ _ _ h=>h) (Or.inl ⟨by rfl,fun w _=>by go_simp;rfl⟩) hHeld ?_
       simp only [Act.put,List.setIfInBounds_toArray,List.set_cons_zero,List.set_cons_succ]
       refine wpAnyH_ready (rs:=[9]) (by kernel_rfl) (by simp) (AllReadyH.cons (o:={ dst:=some 18,op:=_,type:=_,pos:=_,after:=_,guard:=_ }) rfl (fun K hK=>?_) AllReadyH.nil)
       go_simp
       refine hK.out _ _ hHeld (fun hHeld=>?_)
       clear hK K
       refine wpAnyH_done (by kernel_rfl) ?_ _
       clear hHeld
       go_wp2_with fail
       go_roundw
       case rel=>exact ⟨k+1,true,hk2,rfl,by go_num,hidE (Or.inl rfl),HI⟩
       case measure=>simp [intOf];omega
      | false=>
       obtain ⟨p,q1,q2,q3⟩:=HQ.out.resolve_left (by decide)
       have HP:=hidE (And.intro q1 (And.intro q2 q3))
       clear q1 q2 q3
       by_cases he:was.eraseIdx k=now
       ·have He:=hidE he
        clear he
        go_wp2_with fail
        refine wp_region_held_drew (S:=fun W=>Fnd w W b v5 t5 (.slice (some ⟨ga,0,none⟩) G.length cf) G p1.heap.size cap1 p6.heap.size cap2 was now) (by kernel_rfl) (HI.out.below (drew_below rfl)) (fun hHeld=>?_)
        generalize hwD:World.drew _=wD at hHeld ⊢
        have HI:=hidE hHeld
        clear hwD
        refine wpAnyH_take (i:=0) (oi:={ dst:=some 126,op:=_,type:=_,pos:=_,after:=_,guard:=_ }) rfl (by kernel_rfl) (by kernel_rfl) (by kernel_rfl) (fun _ _ _ h=>h) (Or.inl ⟨by rfl,fun w _=>by go_simp;rfl⟩) hHeld ?_
        simp only [Act.put,List.setIfInBounds_toArray,List.set_cons_zero,List.set_cons_succ]
        refine wpAnyH_take (i:=1) (oi:={ dst:=some 127,op:=_,type:=_,pos:=_,after:=_,guard:=_ }) rfl (by kernel_rfl) (by kernel_rfl) (by kernel_rfl) (fun _ _ _ h=>h) (Or.inl ⟨by rfl,fun w _=>by go_simp;rfl⟩) hHeld ?_
        simp only [Act.put,List.setIfInBounds_toArray,List.set_cons_zero,List.set_cons_succ]
        refine wpAnyH_take (i:=2) (oi:={ dst:=some 128,op:=_,type:=_,pos:=_,after:=_,guard:=_ }) rfl (by kernel_rfl) (by kernel_rfl) (by kernel_rfl) (fun _ _ _ h=>h) (Or.inl ⟨by rfl,fun w _=>by go_simp;rfl⟩) hHeld ?_
        simp only [Act.put,List.setIfInBounds_toArray,List.set_cons_zero,List.set_cons_succ]
        refine wpAnyH_take (i:=3) (oi:={ dst:=some 129,op:=_,type:=_,pos:=_,after:=_,guard:=_ }) rfl (by kernel_rfl) (by kernel_rfl) (by kernel_rfl) (fun _ _ _ h=>h) (Or.inl ⟨by rfl,fun w _=>by go_simp;rfl⟩) hHeld ?_
        simp only [Act.put,List.setIfInBounds_toArray,List.set_cons_zero,List.set_cons_succ]
        refine wpAnyH_take (i:=5) (oi:={ dst:=some 131,op:=_,type:=_,pos:=_,after:=_,guard:=_ }) rfl (by kernel_rfl) (by kernel_rfl) (by kernel_rfl) (fun _ _ _ h=>h) (Or.inl ⟨by rfl,fun w _=>by go_simp;rfl⟩) hHeld ?_
        simp only [Act.put,List.setIfInBounds_toArray,List.set_cons_zero,List.set_cons_succ]
        refine wpAnyH_take (i:=6) (oi:={ dst:=some 132,op:=_,type:=_,pos:=_,after:=_,guard:=_ }) rfl (by kernel_rfl) (by kernel_rfl) (by kernel_rfl) (fun _ _ _ h=>h) (Or.inl ⟨by rfl,fun W hS=>by have hq:=str_runes W hS.now;go_simp;rfl⟩) hHeld ?_
        simp only [Act.put,List.setIfInBounds_toArray,List.set_cons_zero,List.set_cons_succ]
        refine wpAnyH_ready (rs:=[4]) (by kernel_rfl) (by simp) (AllReadyH.cons (o:={ dst:=some 130,op:=_,type:=_,pos:=_,after:=_,guard:=_ }) rfl (fun K hK=>?_) AllReadyH.nil)
        go_simp
        refine (without_eq hHeld.was hk2 He.out).mono ?_
        rintro e w8 ⟨rfl,hb8⟩
        have HI:=hidE (HI.out.below hb8)
        refine hK.out _ _ HI.out (fun hHeld=>?_)
        clear hK K hb8
        refine wpAnyH_take (i:=7) (oi:={ dst:=some 133,op:=_,type:=_,pos:=_,after:=_,guard:=_ }) rfl (by kernel_rfl) (by kernel_rfl) (by kernel_rfl) (fun _ _ _ h=>h) (Or.inl ⟨by rfl,fun w _=>by go_simp;rfl⟩) hHeld ?_
        simp only [Act.put,List.setIfInBounds_toArray,List.set_cons_zero,List.set_cons_succ]
        refine wpAnyH_take (i:=8) (oi:={ dst:=some 134,op:=_,type:=_,pos:=_,after:=_,guard:=_ }) rfl (by kernel_rfl) (by kernel_rfl) (by kernel_rfl) (fun _ _ _ h=>h) (Or.inl ⟨by rfl,fun w _=>by go_simp;rfl⟩) hHeld ?_
        simp only [Act.put,List.setIfInBounds_toArray,List.set_cons_zero,List.set_cons_succ]
        refine wpAnyH_ready (rs:=[9]) (by kernel_rfl) (by simp) (AllReadyH.cons (o:={ dst:=some 18,op:=_,type:=_,pos:=_,after:=_,guard:=_ }) rfl (fun K hK=>?_) AllReadyH.nil)
        go_simp
        refine hK.out _ _ hHeld (fun hHeld=>?_)
        clear hK K
        refine wpAnyH_done (by kernel_rfl) ?_ _
        clear hHeld
        go_wp2_with fail
        go_roundw
        case rel=>exact ⟨k+1,true,hk2,rfl,by go_num,hidE (Or.inl rfl),HI⟩
        case measure=>simp [intOf];omega
       ·have hne:¬ lowS (was.eraseIdx k)=lowS now:=fun q=>he (lowS_inj (HLw.out.1.sub fun x hx=>List.mem_of_mem_eraseIdx hx) HLn.out.1 q)
        have He:=hidE he
        have Hne:=hidE hne
        clear he hne
        go_wp2_with fail
        refine wp_region_held_drew (S:=fun W=>Fnd w W b v5 t5 (.slice (some ⟨ga,0,none⟩) G.length cf) G p1.heap.size cap1 p6.heap.size cap2 was now) (by kernel_rfl) (HI.out.below (drew_below rfl)) (fun hHeld=>?_)
        generalize hwD:World.drew _=wD at hHeld ⊢
        have HI:=hidE hHeld
        clear hwD
        refine wpAnyH_take (i:=0) (oi:={ dst:=some 126,op:=_,type:=_,pos:=_,after:=_,guard:=_ }) rfl (by kernel_rfl) (by kernel_rfl) (by kernel_rfl) (fun _ _ _ h=>h) (Or.inl ⟨by rfl,fun w _=>by go_simp;rfl⟩) hHeld ?_
        simp only [Act.put,List.setIfInBounds_toArray,List.set_cons_zero,List.set_cons_succ]
        refine wpAnyH_take (i:=1) (oi:={ dst:=some 127,op:=_,type:=_,pos:=_,after:=_,guard:=_ }) rfl (by kernel_rfl) (by kernel_rfl) (by kernel_rfl) (fun _ _ _ h=>h) (Or.inl ⟨by rfl,fun w _=>by go_simp;rfl⟩) hHeld ?_
        simp only [Act.put,List.setIfInBounds_toArray,List.set_cons_zero,List.set_cons_succ]
        refine wpAnyH_take (i:=2) (oi:={ dst:=some 128,op:=_,type:=_,pos:=_,after:=_,guard:=_ }) rfl (by kernel_rfl) (by kernel_rfl) (by kernel_rfl) (fun _ _ _ h=>h) (Or.inl ⟨by rfl,fun w _=>by go_simp;rfl⟩) hHeld ?_
        simp only [Act.put,List.setIfInBounds_toArray,List.set_cons_zero,List.set_cons_succ]
        refine wpAnyH_take (i:=3) (oi:={ dst:=some 129,op:=_,type:=_,pos:=_,after:=_,guard:=_ }) rfl (by kernel_rfl) (by kernel_rfl) (by kernel_rfl) (fun _ _ _ h=>h) (Or.inl ⟨by rfl,fun w _=>by go_simp;rfl⟩) hHeld ?_
        simp only [Act.put,List.setIfInBounds_toArray,List.set_cons_zero,List.set_cons_succ]
        refine wpAnyH_take (i:=5) (oi:={ dst:=some 131,op:=_,type:=_,pos:=_,after:=_,guard:=_ }) rfl (by kernel_rfl) (by kernel_rfl) (by kernel_rfl) (fun _ _ _ h=>h) (Or.inl ⟨by rfl,fun w _=>by go_simp;rfl⟩) hHeld ?_
        simp only [Act.put,List.setIfInBounds_toArray,List.set_cons_zero,List.set_cons_succ]
        refine wpAnyH_take (i:=6) (oi:={ dst:=some 132,op:=_,type:=_,pos:=_,after:=_,guard:=_ }) rfl (by kernel_rfl) (by kernel_rfl) (by kernel_rfl) (fun _ _ _ h=>h) (Or.inl ⟨by rfl,fun W hS=>by have hq:=str_runes W hS.now;go_simp;rfl⟩) hHeld ?_
        simp only [Act.put,List.setIfInBounds_toArray,List.set_cons_zero,List.set_cons_succ]
        refine wpAnyH_ready (rs:=[4]) (by kernel_rfl) (by simp) (AllReadyH.cons (o:={ dst:=some 130,op:=_,type:=_,pos:=_,after:=_,guard:=_ }) rfl (fun K hK=>?_) AllReadyH.nil)
        go_simp
        refine (without_any was _ k _ hHeld.was hk2).mono ?_
        rintro e w8 ⟨rfl,hb8⟩
        have HI:=hidE (HI.out.below hb8)
        refine hK.out _ _ HI.out (fun hHeld=>?_)
        clear hK K hb8
        refine wpAnyH_take (i:=7) (oi:={ dst:=some 133,op:=_,type:=_,pos:=_,after:=_,guard:=_ }) rfl (by kernel_rfl) (by kernel_rfl) (by kernel_rfl) (fun _ _ _ h=>h) (Or.inl ⟨by rfl,fun W hS=>by have hq:((lowS (was.eraseIdx k)).toList==(lowS now).toList)=false:=str_ne Hne.out;go_simp;rfl⟩) hHeld ?_
        simp only [Act.put,List.setIfInBounds_toArray,List.set_cons_zero,List.set_cons_succ]
        refine wpAnyH_take (i:=8) (oi:={ dst:=some 134,op:=_,type:=_,pos:=_,after:=_,guard:=_ }) rfl (by kernel_rfl) (by kernel_rfl) (by kernel_rfl) (fun _ _ _ h=>h) (Or.inl ⟨by rfl,fun w _=>by go_simp;rfl⟩) hHeld ?_
        simp only [Act.put,List.setIfInBounds_toArray,List.set_cons_zero,List.set_cons_succ]
        refine wpAnyH_ready (rs:=[9]) (by kernel_rfl) (by simp) (AllReadyH.cons (o:={ dst:=some 18,op:=_,type:=_,pos:=_,after:=_,guard:=_ }) rfl (fun K hK=>?_) AllReadyH.nil)
        go_simp
        refine hK.out _ _ hHeld (fun hHeld=>?_)
        clear hK K
        refine wpAnyH_done (by kernel_rfl) ?_ _
        clear hHeld
        go_wp2_with fail
        go_roundw
        case rel=>exact ⟨k+1,false,hk2,rfl,by go_num,hidE (Or.inr ⟨p,Nat.lt_of_le_of_ne HP.out.1 (fun g=>He.out (g▸HP.out.2.2)),HP.out.2⟩),HI⟩
        case measure=>simp [intOf];omega
     ·have lk:¬ (k:Int) < (was.length:Int):=by omega
      obtain rfl:f=true:=HQ.out.resolve_right fun ⟨p,q1,q2,_⟩=>by omega
      go_wp2_with fail
      go_roundw
      case rel=>exact ⟨i+1,v5,t5,hlt,by go_num,H5.out.1,hidE HI.out.rest⟩
      case measure=>simp [intOf];omega
  ·have li:¬ (i:Int) < (G.length:Int):=by omega
   have HT2:Hid (t.list=setOf G):=hidE (by have:=HT.out;rwa [List.take_of_length_le (by omega)] at this)
   clear HT
   have r3:=pk_range (c:=lo) (n:=3) (by omega)
   have r31:=pk_range (c:=hi) (n:=31) (by omega)
   obtain ⟨n,hn⟩:∃ n:Nat,pk hi 31=n:=⟨(pk hi 31).toNat,by omega⟩
   have e1:IntKind.i64.wrap (1+pk lo 3)=1+pk lo 3:=i64r (by omega)
   have e2:IntKind.u32.wrap (1+pk lo 3)=1+pk lo 3:=by rw [IntKind.wrap_u32];omega
   go_wp2_with (first | (go_at_call 20;have hq:=H5;clear hq;refine (new_any 6 _).mono ?_;rintro e q2 ⟨hN,hbn⟩;unfold NewP at hN;rw [if_pos (by decide)] at hN;obtain ⟨bz,rfl,hl4,hr4⟩:=hN;have H6:Hid (Rest w q2 [⟨b,9,v,t,[]⟩,⟨bx,5,.slice none 0 0,.nil,[]⟩,⟨bz,6,.slice none 0 0,.nil,[]⟩] (.slice af G.length cf) G):=hidE (H5.out.new hbn hl4 hr4 HE.out.1 HE.out.2);clear hbn hl4 hr4) | (go_at_call 20;refine (new_any 5 _).mono ?_;rintro e q1 ⟨hN,hbn⟩;unfold NewP at hN;rw [if_pos (by decide)] at hN;obtain ⟨bx,rfl,hl4,hr4⟩:=hN;have H5:Hid (Rest w q1 [⟨b,9,v,t,[]⟩,⟨bx,5,.slice none 0 0,.nil,[]⟩] (.slice af G.length cf) G):=hidE (HR.out.new hbn hl4 hr4 HE.out.1 HE.out.2);clear hbn hl4 hr4) | (go_at_call 22;have hq:=H6;clear hq;refine (pick_any hi 31 HL.out.2 (by omega) _).mono ?_;rw [hn];rintro e wx ⟨rfl,hwx⟩;obtain rfl:=hwx.symm) | (go_at_call 22;refine (pick_any lo 3 HL.out.1 (by omega) _).mono ?_;rintro e wx ⟨rfl,hwx⟩;obtain rfl:=hwx.symm))
   have n30:n≤30:=by omega
   clear e1 e2 r3 r31 hn HR H5
   generalize 1+pk lo 3=cc
   go_loopw [22,28] (fun sv iv wr=>∃ (i2:Nat) (S:List Opn) (vx:Value) (tx:Tr),i2≤G.length∧iv=.int .i64 i2∧Hid (tx.list=setOf (G.take i2))∧Hid (Some (G.take i2) cc n S)∧Hid (Coll w wr [⟨b,9,v,t,[]⟩,⟨bx,5,vx,tx,[]⟩,⟨bz,6,.slice none 0 0,.nil,[]⟩] (.slice af G.length cf) G sv S)) (fun _ iv _=>G.length-(intOf iv).toNat)
   case atStart=>exact ⟨0,[],_,_,Nat.zero_le _,rfl,hidE rfl,hidE (Some.nil _ _),hidE ⟨H6.out,⟨rfl,Or.inl ⟨rfl,rfl⟩⟩,fun g e=>by cases e⟩⟩
   case round=>
    obtain ⟨i2,S,vx,tx,hi2,rfl,HTx,HM,HC⟩:=hrel
    clear H6
    obtain ⟨aS,cs,rfl⟩:=ownO_form HC.out.own
    have hSn:S.length≤n:=HM.out.len
    by_cases hlt:i2 < G.length
    ·have li2:(i2:Int) < (G.length:Int):=by omega
     obtain ⟨ga,rfl⟩:=ownO_some HC.out.rest.own (by omega)
     obtain ⟨k0,k1,k2,k3,k4,k5⟩:=ownO_cells HC.out.rest.own hlt
     by_cases hc:cc=G[i2].cl
     ·subst hc
      by_cases hn:S.length < n
      ·have ln:(S.length:Int) < (n:Int):=by omega
       go_wp2_with (first | (at_builtin;refine wpList_append_own_at _ rfl (.tmp 185) (.tmp 187) 32 rfl w.heap.size 43 i0 (.agg #[.int .i64 0,.int .u32 0,.int .u32 0,.int .u32 0,.int .u64 0,.int .i32 0]) 6 40 Tryz.underlying32 hi0 hz0 hz1 hz2 rfl (by decide) (.slice aS S.length cs) S.length (opCs S) rfl (World.ownsRow.alloc (World.ownsRow.alloc HC.out.own _) _) ⟨wr.heap.size+1,0,none⟩ 1 1 [.int .i64 G[i2].kd,.int .u32 G[i2].cl,.int .u32 G[i2].ck,.int .u32 G[i2].st,.int .u64 G[i2].rf,.int .i32 G[i2].ch] rfl rfl ?hn (by simp [Value.oneCell']) (by unfold maxLen;omega) (by omega) (Nat.le_trans HC.out.rest.below.size (by simp;omega)) ?_;(case hn=>exact op_new2 _ _ _);intro v6 w6 ho6 hg6 _ hat6;have HB6:RowIs w6 wr.heap.size 43 6 (opV G[i2]):=((RowIs.last rfl rfl:RowIs (wr.alloc (.cells #[.int .i64 G[i2].kd,.int .u32 G[i2].cl,.int .u32 G[i2].ck,.int .u32 G[i2].st,.int .u64 G[i2].rf,.int .i32 G[i2].ch] 43)) wr.heap.size 43 6 (opV G[i2])).alloc _).but (X:=fun x=>(Value.slice aS S.length cs).ownBlock=some x) ⟨hg6.size,hg6.os,hg6.tape,hg6.output,fun i hi hx=>hg6.block i hi fun e=>hx e.symm⟩ (fun q=>by have:=(World.ownsRow.lt HC.out.own _ q).2;omega);have HC6:=hidE (((HC.out.below (below1' wr (.cells #[.int .i64 G[i2].kd,.int .u32 G[i2].cl,.int .u32 G[i2].ck,.int .u32 G[i2].st,.int .u64 G[i2].rf,.int .i32 G[i2].ch] 43))).below (below1' _ _)).grown HE.out.2 hg6 hat6 (own_snoc ho6));have y0:=HB6.cell (j:=0) (by omega);have y1:=HB6.cell (j:=1) (by omega);have y2:=HB6.cell (j:=2) (by omega);have y3:=HB6.cell (j:=3) (by omega);have y4:=HB6.cell (j:=4) (by omega);have y5:=HB6.cell (j:=5) (by omega);simp only [opV] at y0 y1 y2 y3 y4 y5;clear ho6 hg6 hat6 HB6) | (go_at_call 21;refine ((HC6.out).hear H3.out.1 hlt HTx.out).mono ?_;rintro e w7 ⟨rfl,v7,t7,ht7,hC7⟩;have H7:=hidE (And.intro ht7 hC7);clear ht7 hC7))
       go_roundw
       case rel=>exact ⟨i2+1,_,v7,t7,hlt,by go_num,hidE H7.out.1,hidE (by rw [List.take_succ_eq_append_getElem hlt];exact HM.out.take (H3.out.1.step hlt) rfl hn),hidE H7.out.2⟩
       case measure=>simp [intOf];omega
      ·have ln:¬ (S.length:Int) < (n:Int):=by omega
       go_wp2_with (go_at_call 21;refine ((HC.out.below (below1' wr (.cells #[.int .i64 G[i2].kd,.int .u32 G[i2].cl,.int .u32 G[i2].ck,.int .u32 G[i2].st,.int .u64 G[i2].rf,.int .i32 G[i2].ch] 43))).hear H3.out.1 hlt HTx.out).mono ?_;rintro e w7 ⟨rfl,v7,t7,ht7,hC7⟩;have H7:=hidE (And.intro ht7 hC7);clear ht7 hC7)
       go_roundw
       case rel=>exact ⟨i2+1,_,v7,t7,hlt,by go_num,hidE H7.out.1,hidE (by rw [List.take_succ_eq_append_getElem hlt];exact HM.out.pass (Or.inr (by omega))),hidE H7.out.2⟩
       case measure=>simp [intOf];omega
     ·have hc':¬ G[i2].cl=cc:=fun q=>hc q.symm
      go_wp2_with (go_at_call 21;refine ((HC.out.below (below1' wr (.cells #[.int .i64 G[i2].kd,.int .u32 G[i2].cl,.int .u32 G[i2].ck,.int .u32 G[i2].st,.int .u64 G[i2].rf,.int .i32 G[i2].ch] 43))).hear H3.out.1 hlt HTx.out).mono ?_;rintro e w7 ⟨rfl,v7,t7,ht7,hC7⟩;have H7:=hidE (And.intro ht7 hC7);clear ht7 hC7)
      go_roundw
      case rel=>exact ⟨i2+1,_,v7,t7,hlt,by go_num,hidE H7.out.1,hidE (by rw [List.take_succ_eq_append_getElem hlt];exact HM.out.pass (Or.inl hc')),hidE H7.out.2⟩
      case measure=>simp [intOf];omega
    ·have li2:¬ (i2:Int) < (G.length:Int):=by omega
     have HTx2:Hid (tx.list=setOf G):=hidE (by have:=HTx.out;rwa [List.take_of_length_le (by omega)] at this)
     have HM2:Hid (Some G cc n S):=hidE (by have:=HM.out;rwa [List.take_of_length_le (by omega)] at this)
     clear HTx HM
     by_cases h0:S.length=0
     ·have lS:(S.length:Int)=0:=by omega
      have O9:One wr b 9 v t []:=HC.out.rest.many.all _ (List.mem_cons_self ..)
      have O5:One wr bx 5 vx tx []:=HC.out.rest.many.all _ (List.mem_cons_of_mem _ (List.mem_cons_self ..))
      have O6:One wr bz 6 (.slice none 0 0) .nil []:=HC.out.rest.many.all _ (List.mem_cons_of_mem _ (List.mem_cons_of_mem _ (List.mem_cons_self ..)))
      have hpos:∀ x∈t.list,0≤x.key:=fun x hx=>(key_rng (H3.out.1.set.ok x (by rw [← HT2.out];exact hx))).1
      have d1:t.rng 9 3=t.rng 1 1:=O9.rngs O9 (by rw [filt_none fun x _=>by omega,filt_none fun x _=>by omega])
      have d2:Tr.nil.rng 0 1099511627776=t.rng 0 0:=O6.rngs O9 (by rw [filt_none (l:=t.list) fun x hx=>Or.inl (hpos x hx)];rfl)
      obtain ⟨D1,hD1⟩:∃ D,strOfNums (t.rng 1 1).txt=D:=⟨_,rfl⟩
      obtain ⟨D2,hD2⟩:∃ D,strOfNums (t.rng 0 0).txt=D:=⟨_,rfl⟩
      have HD:=hidE (And.intro hD1 (And.intro (d1.symm▸hD1:strOfNums (t.rng 9 3).txt=D1) (And.intro hD2 (d2.symm▸hD2:strOfNums (Tr.nil.rng 0 1099511627776).txt=D2))))
      clear O9 O5 O6 hpos d1 d2 hD1 hD2
      have hq1:=eqSame D1
      have hq2:=eqSame D2
      go_wp2_with (first | (go_at_call 27;have hq:=R3;clear hq;refine ((R3.out.rest.many.all _ (List.mem_cons_of_mem _ (List.mem_cons_of_mem _ (List.mem_cons_self ..)))).rootD 0 1099511627776 HD.out.2.2.2).mono ?_;rintro e z4 ⟨rfl,hbr⟩;have R4:=hidE (R3.out.below hbr);clear hbr) | (go_at_call 27;have hq:=R2;clear hq;refine ((R2.out.rest.many.all _ (List.mem_cons_self ..)).rootD 0 0 HD.out.2.2.1).mono ?_;rintro e z3 ⟨rfl,hbr⟩;have R3:=hidE (R2.out.below hbr);clear hbr) | (go_at_call 27;have hq:=R1;clear hq;refine ((R1.out.rest.many.all _ (List.mem_cons_self ..)).rootD 9 3 HD.out.2.1).mono ?_;rintro e z2 ⟨rfl,hbr⟩;have R2:=hidE (R1.out.below hbr);clear hbr) | (go_at_call 27;refine ((HC.out.rest.many.all _ (List.mem_cons_self ..)).rootD 1 1 HD.out.1).mono ?_;rintro e z1 ⟨rfl,hbr⟩;have R1:=hidE (HC.out.below hbr);clear hbr))
      go_ret
      exact ⟨rfl,R4.out.rest.below⟩
     ·have h0':0 < S.length:=by omega
      have lS:¬ (S.length:Int)=0:=by omega
      obtain ⟨gs,rfl⟩:=ownO_some HC.out.own h0'
      have hl1:S.length-1 < S.length:=by omega
      obtain ⟨o0',ho0⟩:∃ x,S[0]=x:=⟨_,rfl⟩
      obtain ⟨oL,hoL⟩:∃ x,S[S.length-1]=x:=⟨_,rfl⟩
      have okS:∀ x∈S,x.ok=true:=fun x hx=>H3.out.1.set.ok x (setOf_mem.2 (HM2.out.sub x hx))
      have HF0:=hidE ho0
      have HF:Hid (o0'.ok=true∧oL.ok=true∧o0'.ck=1):=hidE ⟨ho0▸okS _ (List.getElem_mem h0'),hoL▸okS _ (List.getElem_mem hl1),HM2.out.first _ (by rw [List.getElem?_eq_getElem h0',ho0])⟩
      obtain ⟨k0,k1,k2,k3,k4,k5⟩:=ownO_cells HC.out.own hl1
      rw [hoL] at k0 k1 k2 k3 k4 k5
      have w1:IntKind.i64.wrap ((S.length:Int)-1)=((S.length-1:Nat):Int):=by rw [i64r (by omega)];omega
      have w2:((S.length-1:Nat):Int) < (S.length:Int):=by omega
      clear ho0 hoL okS
      have O9:One wr b 9 v t []:=HC.out.rest.many.all _ (List.mem_cons_self ..)
      have O5:One wr bx 5 vx tx []:=HC.out.rest.many.all _ (List.mem_cons_of_mem _ (List.mem_cons_self ..))
      have O6:One wr bz 6 (.slice none 0 0) .nil []:=HC.out.rest.many.all _ (List.mem_cons_of_mem _ (List.mem_cons_of_mem _ (List.mem_cons_self ..)))
      have g0:=key_rng HF.out.1
      have gL:=key_rng HF.out.2.1
      have gp:1≤o0'.key:=by have:=okKey_pos (okKey_of HF.out.1);omega
      have hall:∀ x∈setOf G,x.ok=true:=H3.out.1.set.ok
      have d1:t.rng (o0'.key-1) (oL.key+1)=tx.rng o0'.key (oL.key+1):=O9.rngs O5 (by rw [HT2.out,HTx2.out];exact (filt_key hall HF.out.1 HF.out.2.2 _).symm)
      have d2:t.rng 0 1099511627776=tx.rng 0 1099511627776:=O9.rngs O5 (by rw [HT2.out,HTx2.out])
      obtain ⟨D1,hD1⟩:∃ D,strOfNums (tx.rng o0'.key (oL.key+1)).txt=D:=⟨_,rfl⟩
      obtain ⟨D2,hD2⟩:∃ D,strOfNums (tx.rng 0 1099511627776).txt=D:=⟨_,rfl⟩
      have HD:=hidE (And.intro hD1 (And.intro (d1.symm▸hD1:strOfNums (t.rng (o0'.key-1) (oL.key+1)).txt=D1) (And.intro (d2.symm▸hD2:strOfNums (t.rng 0 1099511627776).txt=D2) hD2)))
      have w3:IntKind.u64.wrap (oL.key+1)=oL.key+1:=by rw [IntKind.wrap_u64];omega
      have w4:IntKind.u64.wrap (o0'.key-1)=o0'.key-1:=by rw [IntKind.wrap_u64];omega
      clear O9 O5 O6 hall d1 d2 hD1 hD2 g0 gL gp
      go_wp2_with (go_at_call 29;refine (key_any oL (HF.out.2.1) _).mono ?_;rintro e q3 ⟨rfl,hbk⟩;have HC:=hidE (HC.out.below hbk);clear hbk)
      refine wp_region_held_drew (S:=fun W=>OwnO W w.heap.size (.slice (some ⟨gs,0,none⟩) S.length cs) S) (by kernel_rfl) ((HC.out.below (drew_below rfl)).own) (fun hHeld=>?_)
      generalize hwD:World.drew _=wD at hHeld ⊢
      have HC:=hidE (HC.out.below (drew_below hwD))
      clear hwD k0 k1 k2 k3 k4 k5
      refine wpAnyH_take (i:=0) (oi:={ dst:=some 214,op:=_,type:=_,pos:=_,after:=_,guard:=_ }) rfl (by kernel_rfl) (by kernel_rfl) (by kernel_rfl) (fun _ _ _ h=>h) (Or.inl ⟨by rfl,fun w _=>by go_simp;rfl⟩) hHeld ?_
      simp only [Act.put,List.setIfInBounds_toArray,List.set_cons_zero,List.set_cons_succ]
      refine wpAnyH_take (i:=1) (oi:={ dst:=some 215,op:=_,type:=_,pos:=_,after:=_,guard:=_ }) rfl (by kernel_rfl) (by kernel_rfl) (by kernel_rfl) (fun _ _ _ h=>h) (Or.inl ⟨by rfl,fun w _=>by go_simp;rfl⟩) hHeld ?_
      simp only [Act.put,List.setIfInBounds_toArray,List.set_cons_zero,List.set_cons_succ]
      refine wpAnyH_take (i:=2) (oi:={ dst:=some 216,op:=_,type:=_,pos:=_,after:=_,guard:=_ }) rfl (by kernel_rfl) (by kernel_rfl) (by kernel_rfl) (fun _ _ _ h=>h) (Or.inl ⟨by rfl,fun w _=>by go_simp;rfl⟩) hHeld ?_
      simp only [Act.put,List.setIfInBounds_toArray,List.set_cons_zero,List.set_cons_succ]
      refine wpAnyH_take (i:=3) (oi:={ dst:=some 217,op:=_,type:=_,pos:=_,after:=_,guard:=_ }) rfl (by kernel_rfl) (by kernel_rfl) (by kernel_rfl) (fun _ _ _ h=>h) (Or.inl ⟨by rfl,fun W hS=>by obtain ⟨m0,m1,m2,m3,m4,m5⟩:=ownO_cells hS h0';rw [HF0.out] at m0 m1 m2 m3 m4 m5;simp only [Nat.zero_mul,Nat.zero_add] at m0 m1 m2 m3 m4 m5;go_simp;rfl⟩) hHeld ?_
      simp only [Act.put,List.setIfInBounds_toArray,List.set_cons_zero,List.set_cons_succ]
      refine wpAnyH_take (i:=5) (oi:={ dst:=some 219,op:=_,type:=_,pos:=_,after:=_,guard:=_ }) rfl (by kernel_rfl) (by kernel_rfl) (by kernel_rfl) (fun _ _ _ h=>h) (Or.inl ⟨by rfl,fun w _=>by go_simp;rfl⟩) hHeld ?_
      simp only [Act.put,List.setIfInBounds_toArray,List.set_cons_zero,List.set_cons_succ]
      refine wpAnyH_take (i:=6) (oi:={ dst:=some 220,op:=_,type:=_,pos:=_,after:=_,guard:=_ }) rfl (by kernel_rfl) (by kernel_rfl) (by kernel_rfl) (fun _ _ _ h=>h) (Or.inl ⟨by rfl,fun w _=>by go_simp;rfl⟩) hHeld ?_
      simp only [Act.put,List.setIfInBounds_toArray,List.set_cons_zero,List.set_cons_succ]
      refine wpAnyH_take (i:=8) (oi:={ dst:=some 222,op:=_,type:=_,pos:=_,after:=_,guard:=_ }) rfl (by kernel_rfl) (by kernel_rfl) (by kernel_rfl) (fun _ _ _ h=>h) (Or.inl ⟨by rfl,fun w _=>by go_simp;rfl⟩) hHeld ?_
      simp only [Act.put,List.setIfInBounds_toArray,List.set_cons_zero,List.set_cons_succ]
      refine wpAnyH_take (i:=9) (oi:={ dst:=some 223,op:=_,type:=_,pos:=_,after:=_,guard:=_ }) rfl (by kernel_rfl) (by kernel_rfl) (by kernel_rfl) (fun _ _ _ h=>h) (Or.inl ⟨by rfl,fun w _=>by go_simp;rfl⟩) hHeld ?_
      simp only [Act.put,List.setIfInBounds_toArray,List.set_cons_zero,List.set_cons_succ]
      refine wpAnyH_take (i:=10) (oi:={ dst:=some 224,op:=_,type:=_,pos:=_,after:=_,guard:=_ }) rfl (by kernel_rfl) (by kernel_rfl) (by kernel_rfl) (fun _ _ _ h=>h) (Or.inl ⟨by rfl,fun w _=>by go_simp;rfl⟩) hHeld ?_
      simp only [Act.put,List.setIfInBounds_toArray,List.set_cons_zero,List.set_cons_succ]
      refine wpAnyH_take (i:=11) (oi:={ dst:=some 225,op:=_,type:=_,pos:=_,after:=_,guard:=_ }) rfl (by kernel_rfl) (by kernel_rfl) (by kernel_rfl) (fun _ _ _ h=>h) (Or.inl ⟨by rfl,fun W hS=>by obtain ⟨m0,m1,m2,m3,m4,m5⟩:=ownO_cells hS h0';rw [HF0.out] at m0 m1 m2 m3 m4 m5;simp only [Nat.zero_mul,Nat.zero_add] at m0 m1 m2 m3 m4 m5;go_simp;rfl⟩) hHeld ?_
      simp only [Act.put,List.setIfInBounds_toArray,List.set_cons_zero,List.set_cons_succ]
      refine wpAnyH_take (i:=14) (oi:={ dst:=some 228,op:=_,type:=_,pos:=_,after:=_,guard:=_ }) rfl (by kernel_rfl) (by kernel_rfl) (by kernel_rfl) (fun _ _ _ h=>h) (Or.inl ⟨by rfl,fun w _=>by go_simp;rfl⟩) hHeld ?_
      simp only [Act.put,List.setIfInBounds_toArray,List.set_cons_zero,List.set_cons_succ]
      refine wpAnyH_take (i:=15) (oi:={ dst:=some 229,op:=_,type:=_,pos:=_,after:=_,guard:=_ }) rfl (by kernel_rfl) (by kernel_rfl) (by kernel_rfl) (fun _ _ _ h=>h) (Or.inl ⟨by rfl,fun w _=>by go_simp;rfl⟩) hHeld ?_
      simp only [Act.put,List.setIfInBounds_toArray,List.set_cons_zero,List.set_cons_succ]
      refine wpAnyH_ready (rs:=[4]) (by kernel_rfl) (by simp) (AllReadyH.cons (o:={ dst:=some 218,op:=_,type:=_,pos:=_,after:=_,guard:=_ }) rfl (fun K hK=>?_) AllReadyH.nil)
      go_simp
      refine (key_any o0' HF.out.1 _).mono ?_
      rintro e z1 ⟨rfl,hbk⟩
      have HC:=hidE (HC.out.below hbk)
      refine hK.out _ _ HC.out.own (fun hHeld=>?_)
      clear hK K hbk
      refine wpAnyH_ready (rs:=[7]) (by kernel_rfl) (by simp) (AllReadyH.cons (o:={ dst:=some 221,op:=_,type:=_,pos:=_,after:=_,guard:=_ }) rfl (fun K hK=>?_) AllReadyH.nil)
      go_simp
      refine ((HC.out.rest.many.all _ (List.mem_cons_of_mem _ (List.mem_cons_self ..))).rootD _ _ HD.out.1).mono ?_
      rintro e z2 ⟨rfl,hbk⟩
      have HC:=hidE (HC.out.below hbk)
      refine hK.out _ _ HC.out.own (fun hHeld=>?_)
      clear hK K hbk
      refine wpAnyH_ready (rs:=[12]) (by kernel_rfl) (by simp) (AllReadyH.cons (o:={ dst:=some 226,op:=_,type:=_,pos:=_,after:=_,guard:=_ }) rfl (fun K hK=>?_) AllReadyH.nil)
      go_simp
      refine (key_any o0' HF.out.1 _).mono ?_
      rintro e z3 ⟨rfl,hbk⟩
      have HC:=hidE (HC.out.below hbk)
      refine hK.out _ _ HC.out.own (fun hHeld=>?_)
      clear hK K hbk
      refine wpAnyH_take (i:=13) (oi:={ dst:=some 227,op:=_,type:=_,pos:=_,after:=_,guard:=_ }) rfl (by kernel_rfl) (by kernel_rfl) (by kernel_rfl) (fun _ _ _ h=>h) (Or.inl ⟨by rfl,fun w _=>by go_simp;rfl⟩) hHeld ?_
      simp only [Act.put,List.setIfInBounds_toArray,List.set_cons_zero,List.set_cons_succ]
      refine wpAnyH_ready (rs:=[16]) (by kernel_rfl) (by simp) (AllReadyH.cons (o:={ dst:=some 230,op:=_,type:=_,pos:=_,after:=_,guard:=_ }) rfl (fun K hK=>?_) AllReadyH.nil)
      go_simp
      refine ((HC.out.rest.many.all _ (List.mem_cons_self ..)).rootD _ _ HD.out.2.1).mono ?_
      rintro e z4 ⟨rfl,hbk⟩
      have HC:=hidE (HC.out.below hbk)
      refine hK.out _ _ HC.out.own (fun hHeld=>?_)
      clear hK K hbk
      refine wpAnyH_take (i:=17) (oi:={ dst:=some 231,op:=_,type:=_,pos:=_,after:=_,guard:=_ }) rfl (by kernel_rfl) (by kernel_rfl) (by kernel_rfl) (fun _ _ _ h=>h) (Or.inl ⟨by rfl,fun W hS=>by have hq:=eqSame D1 W;go_simp;rfl⟩) hHeld ?_
      simp only [Act.put,List.setIfInBounds_toArray,List.set_cons_zero,List.set_cons_succ]
      refine wpAnyH_take (i:=18) (oi:={ dst:=some 232,op:=_,type:=_,pos:=_,after:=_,guard:=_ }) rfl (by kernel_rfl) (by kernel_rfl) (by kernel_rfl) (fun _ _ _ h=>h) (Or.inl ⟨by rfl,fun w _=>by go_simp;rfl⟩) hHeld ?_
      simp only [Act.put,List.setIfInBounds_toArray,List.set_cons_zero,List.set_cons_succ]
      refine wpAnyH_take (i:=19) (oi:={ dst:=some 233,op:=_,type:=_,pos:=_,after:=_,guard:=_ }) rfl (by kernel_rfl) (by kernel_rfl) (by kernel_rfl) (fun _ _ _ h=>h) (Or.inl ⟨by rfl,fun w _=>by go_simp;rfl⟩) hHeld ?_
      simp only [Act.put,List.setIfInBounds_toArray,List.set_cons_zero,List.set_cons_succ]
      refine wpAnyH_take (i:=21) (oi:={ dst:=some 235,op:=_,type:=_,pos:=_,after:=_,guard:=_ }) rfl (by kernel_rfl) (by kernel_rfl) (by kernel_rfl) (fun _ _ _ h=>h) (Or.inl ⟨by rfl,fun w _=>by go_simp;rfl⟩) hHeld ?_
      simp only [Act.put,List.setIfInBounds_toArray,List.set_cons_zero,List.set_cons_succ]
      refine wpAnyH_ready (rs:=[20]) (by kernel_rfl) (by simp) (AllReadyH.cons (o:={ dst:=some 234,op:=_,type:=_,pos:=_,after:=_,guard:=_ }) rfl (fun K hK=>?_) AllReadyH.nil)
      go_simp
      refine ((HC.out.rest.many.all _ (List.mem_cons_self ..)).rootD _ _ HD.out.2.2.1).mono ?_
      rintro e z5 ⟨rfl,hbk⟩
      have HC:=hidE (HC.out.below hbk)
      refine hK.out _ _ HC.out.own (fun hHeld=>?_)
      clear hK K hbk
      refine wpAnyH_ready (rs:=[22]) (by kernel_rfl) (by simp) (AllReadyH.cons (o:={ dst:=some 236,op:=_,type:=_,pos:=_,after:=_,guard:=_ }) rfl (fun K hK=>?_) AllReadyH.nil)
      go_simp
      refine ((HC.out.rest.many.all _ (List.mem_cons_of_mem _ (List.mem_cons_self ..))).rootD _ _ HD.out.2.2.2).mono ?_
      rintro e z6 ⟨rfl,hbk⟩
      have HC:=hidE (HC.out.below hbk)
      refine hK.out _ _ HC.out.own (fun hHeld=>?_)
      clear hK K hbk
      refine wpAnyH_take (i:=23) (oi:={ dst:=some 237,op:=_,type:=_,pos:=_,after:=_,guard:=_ }) rfl (by kernel_rfl) (by kernel_rfl) (by kernel_rfl) (fun _ _ _ h=>h) (Or.inl ⟨by rfl,fun W hS=>by have hq:=eqSame D2 W;go_simp;rfl⟩) hHeld ?_
      simp only [Act.put,List.setIfInBounds_toArray,List.set_cons_zero,List.set_cons_succ]
      refine wpAnyH_take (i:=24) (oi:={ dst:=some 238,op:=_,type:=_,pos:=_,after:=_,guard:=_ }) rfl (by kernel_rfl) (by kernel_rfl) (by kernel_rfl) (fun _ _ _ h=>h) (Or.inl ⟨by rfl,fun w _=>by go_simp;rfl⟩) hHeld ?_
      simp only [Act.put,List.setIfInBounds_toArray,List.set_cons_zero,List.set_cons_succ]
      refine wpAnyH_ready (rs:=[25]) (by kernel_rfl) (by simp) (AllReadyH.cons (o:={ dst:=some 6,op:=_,type:=_,pos:=_,after:=_,guard:=_ }) rfl (fun K hK=>?_) AllReadyH.nil)
      go_simp
      refine hK.out _ _ hHeld (fun hHeld=>?_)
      clear hK K
      refine wpAnyH_done (by kernel_rfl) ?_ _
      clear hHeld
      go_wp2_with fail
      go_ret
      exact ⟨rfl,HC.out.rest.below⟩
end Go.Proofs.YtgccjefbedpmpaaGreatDoor

import Derived.Test.YtgccjefbedpmpaaGreatDoorYWrite1
import Derived.Shelf.Spec.SlicesInsertGrow
namespace Go.Proofs.YtgccjefbedpmpaaGreatDoor
open Go.RowKit
set_option maxRecDepth 100000
set_option maxHeartbeats 8000000
variable {B cap g i n : Nat} {o : Opn}
theorem xm {P:Program} (w:World) (dT sT ty elem:TypeId) (b o dLen dCap:Nat) (a:Addr) (sLen sCap size k:Nat) (cs:List Value)
  (hu:P.underlying dT=some (.slice elem)) (hs:(P.info? elem).map (·.size)=some size) (hk:k=Nat.min sLen dLen) (hn:cs.length=k*size)
  (hsrc:∀ j v,cs[j]?=some v→w.cell? (a.add j)=some v) (hc:∀ j,j<cs.length→(w.cell? ⟨b,o+j,none⟩).isSome=true) (hf:∀ j,j<cs.length→w.frozen? ⟨b,o+j,none⟩=false) (h1:∀ v∈cs,v.oneCell'=true) :
  (Builtin.copy_ #[dT,sT] ty #[.slice (some (Ad b o)) dLen dCap,.slice (some a) sLen sCap]).run P w=.ok (goInt k) (w.setCells b o cs):=by
 have hl:=run_loadCells_list (P:=P) w a cs hsrc;have hst:=run_storeCells_cells (P:=P) b o cs 0 w (by simpa using hc) (by simpa using hf) h1
 cases hq:P.info? elem with
 | none=>simp [hq] at hs
 | some i=>
  have hi:i.size=size:=by simpa [hq] using hs
  rw [hn] at hl;simp [Builtin.copy_,run_underlying hu,Builtin.lenOf,Builtin.firstCells,sizeOf,typeInfo,hq,hi,← hk,hl,hst]
theorem own_longer {w:World} {m:Nat} {e:TypeId} {size:Nat} {xs:List Value} (h:w.ownsRow B e size (.slice (some (Ad g 0)) n cap) n xs) (hn:n≤m) (hm:m≤cap) :
  ∃ ys,w.ownsRow B e size (.slice (some (Ad g 0)) m cap) m ys∧ys.take (n*size)=xs:=by
 have hml:n*size≤m*size:=Nat.mul_le_mul_right _ hn;have hmc:m*size≤cap*size:=Nat.mul_le_mul_right _ hm;rcases h.2 with ⟨e0,_⟩|⟨g',cap',cur,e0,h1,h2,h3,h4,h5,h6⟩
 ·cases e0
 ·cases e0;refine ⟨cur.toList.take (m*size),⟨by rw [qm,yo,h5];omega,Or.inr ⟨g,cap,cur,rfl,h1,h2,hm,h4,h5,rfl⟩⟩,?_⟩;rw [yg,jr hml,h6]
theorem insIdx_eq {α:Type} (o:α):∀ (i:Nat) (os:List α),i≤os.length→os.insertIdx i o=os.take i++[o]++os.drop i
 | 0,os,_=>by simp
 | i+1,[],h=>by simp at h
 | i+1,x::os,h=>by
  have:=insIdx_eq o i os (by simpa using h);simp [this]
theorem opCs_ins (os:List Opn) (i:Nat) (o:Opn) (hi:i≤os.length):opCs (os.insertIdx i o)=(opCs os).take (i*6)++opCs [o]++opCs (os.drop i):=by
 rw [opCs_take,← opCs_app,← opCs_app];congr 1;exact insIdx_eq o i os hi
theorem own_put2 {w:World} {os:List Opn} {ys:List Value} (h:w.ownsRow B 43 6 (.slice (some (Ad g 0)) (n+1) cap) (n+1) ys) (hn:os.length=n) (hi:i≤n) (hy:ys.take (i*6)=(opCs os).take (i*6)) :
  OwnO ((w.setCells g ((i+1)*6) (opCs (os.drop i))).setCells g (i*6) (opCs [o])) B (.slice (some (Ad g 0)) (n+1) cap) (os.insertIdx i o)∧OwnO ((w.setCells g (i*6) (opCs [o])).setCells g ((i+1)*6) (opCs (os.drop i))) B (.slice (some (Ad g 0)) (n+1) cap) (os.insertIdx i o):=by
 have hyl:ys.length=(n+1)*6:=h.1;have hd:(opCs (os.drop i)).length=(n-i)*6:=by rw [xu,qt,hn]
 have h6:(opCs [o]).length=6:=rfl;have hl:(os.insertIdx i o).length=n+1:=by rw [List.length_insertIdx,if_pos (by omega),hn]
 unfold OwnO;rw [hl,opCs_ins os i o (by omega),← hy];constructor
 ·have h1:=ve (opCs (os.drop i)) ((i+1)*6) w _ h (by rw [hd,hyl];omega);have h2:=ve (opCs [o]) (i*6) _ _ h1 (by simp only [qe,qm,qt,hd,hyl,h6];omega);have e1:ys.drop ((i+1)*6+(opCs (os.drop i)).length)=[]:=List.drop_eq_nil_of_le (by rw [hd,hyl];omega);rw [e1,jd] at h2
  have e2:(ys.take ((i+1)*6)++opCs (os.drop i)).take (i*6)=ys.take (i*6):=by
   rw [kf (by rw [qm,hyl];omega),yg,jr (by omega)]
  have e3:(ys.take ((i+1)*6)++opCs (os.drop i)).drop (i*6+(opCs [o]).length)=opCs (os.drop i):=by
   rw [h6,List.drop_left' (by rw [qm,hyl];omega)]
  rwa [e2,e3] at h2
 ·have h1:=ve (opCs [o]) (i*6) w _ h (by rw [h6,hyl];omega);have h2:=ve (opCs (os.drop i)) ((i+1)*6) _ _ h1 (by simp only [qe,qm,qt,hd,hyl,h6];omega);have e0:(ys.take (i*6)++opCs [o]).length=(i+1)*6:=by rw [qe,qm,hyl,h6];omega
  have e4:(ys.take (i*6)++opCs [o]++ys.drop (i*6+(opCs [o]).length)).drop ((i+1)*6+(opCs (os.drop i)).length)=[]:=List.drop_eq_nil_of_le (by simp only [qe,qm,qt,hd,hyl,h6];omega);rw [j8 e0,e4,jd] at h2;exact h2
theorem infoAOp3:(Tryz.prog.info? 43).map (fun i=>(i.zero,i.size,i.bytes))=some (some (.agg oZ),6,40):=by kernel_rfl
def InsP (w:World) (i:Nat) (v:Value) (os:List Opn) (o:Opn) (e:Ending) (w':World):Prop:=∃ v',e=.returned v'∧OwnO w' 0 v' (os.insertIdx i o)∧(v'.ownBlock=v.ownBlock∨∃ g,v'.ownBlock=some g∧w.heap.size≤g)∧But (fun b=>v.ownBlock=some b) w w'
theorem insr_shift (g i n m cap vb vc:Nat) (tA:TypeId) (os:List Opn) (o:Opn) (w:World) (h:OwnO w 0 (.slice (some (Ad g 0)) n cap) os) (hn:os.length=n) (hm:m=1) (hi:i<n) (hroom:n+m≤cap) (hv:w.heap[vb]?=some (.cells (opCs [o]).toArray tA (0,0))) (hvb:vb≠g) :
  Cs 99 #[.slice (some (Ad g 0)) n cap,I6 i,.slice (some (Ad vb 0)) m vc] w fun e w'=>InsP w i (.slice (some (Ad g 0)) n cap) os o e w':=by
 have hown:w.ownsRow 0 43 6 (.slice (some (Ad g 0)) n cap) n (opCs os):=by have:=h;unfold OwnO at this;rwa [hn] at this
 obtain ⟨ys,hy,hyt⟩:=own_longer hown (Nat.le_add_right n m) hroom
 have hcap:cap≤9223372036854775807:=by
  rcases h.2 with ⟨e0,_⟩|⟨g',cap',cur,e0,h1,h2,h3,h4,h5,h6⟩
  ·cases e0
  ·cases e0;exact h4
 have hyl:ys.length=(n+m)*6:=hy.1;have hcell:∀ k,k<n*6→w.cell? (Ad g k)=(opCs os)[k]?:=fun k hk=>za hown k hk;have hsp:∀ k,k<(n+m)*6→(w.cell? (Ad g k)).isSome=true:=fun k hk=>by rw [za hy k hk,qk (by omega)];rfl
 have hfz:∀ k,w.frozen? (Ad g k)=false:=fun k=>zq hown k
 have hvc:∀ j u,(opCs [o])[j]?=some u→w.cell? (Ad vb j)=some u:=fun j u hj=>by
  unfold World.cell?;rw [show ((Ad vb j):Addr).block=vb from rfl,hv];simpa using hj
 have hsa:w.shape? vb=some (tA,6):=by unfold World.shape?;rw [hv];rfl
 obtain ⟨kB,hsb,hkB⟩:∃ kB,w.shape? g=some (43,kB)∧kB≠0:=by
  rcases h.2 with ⟨e0,_⟩|⟨g',cap',cur,e0,h1,h2,h3,h4,h5,h6⟩
  ·cases e0
  ·cases e0;exact ⟨cur.size,by unfold World.shape?;rw [h2],by omega⟩
 have hov:∀ lb cb,(callFunc 172 #[.slice (some (Ad vb 0)) m vc,.slice (some ⟨g,(i+m)*6,none⟩) lb cb]).run Tryz.prog w=.ok (.value (.bool false)) w:=fun lb cb=>by
  rw [run_callFunc_extern Tryz.func172 (by kernel_rfl) (by kernel_rfl) (by kernel_rfl) (e:=Extern.SlicesOverlaps.overlaps #[32,32] #[4]) (by kernel_rfl),
   Lib.run_overlaps_apart w 32 4 43 Tryz.underlying32 6 Tryz.sizeOf43 (Ad vb 0) ⟨g,(i+m)*6,none⟩ m vc lb cb hvb tA 43 6 kB hsa hsb hkB (by unfold World.frozen?;rw [hv];rfl) (by unfold World.frozen?;rw [hv];rfl)]
  rfl
 have hdl:(opCs (os.drop i)).length=(n-i)*6:=by rw [xu,qt,hn]
 have hz1:¬ ((m:Int)=0):=by omega
 have hz2:¬ ((i:Int)=(n:Int)):=by omega
 have hz3:¬ ((cap:Int)<(n:Int)+(m:Int)):=by omega
 have hw1:IntKind.i64.wrap ((i:Int)+(m:Int))=(i:Int)+(m:Int):=by rw [IntKind.wrap_i64];omega
 have hb1:(0:Int)≤(i:Int)+(m:Int):=by omega
 have hin:i≤n:=by omega
 have htn:((i:Int)+(m:Int)).toNat=i+m:=by omega
 have hb2:¬ (cap=i+m):=by omega
 have hb3:(i:Int)≤(n:Int)+(m:Int):=by omega
 have hb4:¬ (cap=i):=by omega
 have hcp1:∀ ty dc sc,(Builtin.copy_ #[32,32] ty #[.slice (some ⟨g,(i+m)*6,none⟩) (n+m-(i+m)) dc,.slice (some ⟨g,i*6,none⟩) (n+m-i) sc]).run Tryz.prog w.drew=.ok (goInt ((n-i:Nat):Int)) (w.drew.setCells g ((i+m)*6) (opCs (os.drop i))):=fun ty dc sc=>
  xm w.drew _ _ ty 43 g ((i+m)*6) (n+m-(i+m)) dc ⟨g,i*6,none⟩ (n+m-i) sc 6 (n-i) (opCs (os.drop i)) Tryz.underlying32 infoAOpZ (by simp only [ki];split<;>omega) hdl
   (fun j v hj=>by
    have hjl:=(zn.1 hj).1;rw [Addr.add_lit];show w.cell? ⟨g,i*6+j,none⟩=_
    rw [hcell _ (by omega),← hj,← opCs_drop,ju])
   (fun j hj=>hsp _ (by omega)) (fun j hj=>hfz _) (opCs_one _)
 obtain ⟨W1,hW1⟩:∃ W1,W1=w.drew.setCells g ((i+m)*6) (opCs (os.drop i)):=⟨_,rfl⟩
 have hsp1:∀ k,k<(n+m)*6→(W1.cell? (Ad g k)).isSome=true:=fun k hk=>by
  rw [hW1];exact isSome_setCells g (opCs (os.drop i)) ((i+m)*6) w.drew (fun j hj=>hsp _ (by rw [hdl] at hj;omega)) k (hsp k hk)
 have hcp2:∀ (W:World),(∀ x,W.cell? x=W1.cell? x)→(∀ x,W.frozen? x=W1.frozen? x)→∀ ty dc,(Builtin.copy_ #[32,32] ty #[.slice (some ⟨g,i*6,none⟩) (n+m-i) dc,.slice (some (Ad vb 0)) m vc]).run Tryz.prog W=.ok (goInt ((1:Nat):Int)) (W.setCells g (i*6) (opCs [o])):=fun W hWc hWf ty dc=>
  xm W _ _ ty 43 g (i*6) (n+m-i) dc (Ad vb 0) m vc 6 1 (opCs [o]) Tryz.underlying32 infoAOpZ (by simp only [ki];split<;>omega) rfl
   (fun j v hj=>by
    rw [Addr.add_lit,q9,hWc,hW1,World.cell?_setCells_out g _ _ _ _ (fun h _=>absurd h hvb)]
    exact hvc j v hj)
   (fun j hj=>by rw [hWc];exact hsp1 _ (by have:(opCs [o]).length=6:=rfl;omega)) (fun j hj=>by rw [hWf,hW1,World.frozen?_setCells];exact hfz _) (opCs_one _)
 rw [← hW1] at hcp1;have HH:=vm (qd hy (qd hyt (qd hn (qd hm (qd hi hW1)))));clear h hown hy hyt hyl hcell hsp hfz hvc hsa hsb hkB hdl hsp1 hv hn hm hW1;go_enter Tryz.func99,Tryz.ntmps99;go_wp2_with (simp only [hov]);go_region_law (refine step_copy_runI rfl _ _ 32 32 rfl _ _ (by simp [Act.eval,Act.put]) (by simp [Act.eval,Act.put]) (hcp1 _ _ _) ?_);go_wp2_with (at_builtin;refine wpList_copy_runI _ rfl _ _ 32 32 rfl _ _ rfl rfl (hcp2 _ (fun _=>rfl) (fun _=>rfl) _ _) ?_);go_ret;obtain ⟨hy,hyt,hn,hm,hi,hW1⟩:=HH.out;subst hm;refine ⟨.slice (some (Ad g 0)) (n+1) cap,rfl,?_,Or.inl rfl,?_⟩
 ·rw [hW1];refine (own_put2 (w:=w.drew) hy hn (by omega) ?_).1;rw [← hyt,yg,jr (by omega)]
 ·rw [hW1];exact vy (X:=fun b=>some g=some b) rfl _ _ _ (vy (X:=fun b=>some g=some b) rfl _ _ _ (But.refl _ _).drew)
theorem insr_end (a:Option Addr) (n m cap vb vc:Nat) (tA:TypeId) (os:List Opn) (o:Opn) (w:World) (h:OwnO w 0 (.slice a n cap) os) (hn:os.length=n) (hm:m=1) (hbig:n<1099511627776) (hv:w.heap[vb]?=some (.cells (opCs [o]).toArray tA (0,0))) :
  Cs 99 #[.slice a n cap,I6 n,.slice (some (Ad vb 0)) m vc] w fun e w'=>InsP w n (.slice a n cap) os o e w':=by
 have hown:w.ownsRow 0 43 6 (.slice a n cap) n (opCs os):=by have:=h;unfold OwnO at this;rwa [hn] at this
 obtain ⟨io,hio,hz0,hz1,hz2⟩:∃ io,Tryz.prog.info? 43=some io∧io.zero=some (.agg oZ)∧io.size=6∧io.bytes=40:=by
  have:=infoAOp3
  cases e:Tryz.prog.info? 43 with
  | none=>rw [e] at this;cases this
  | some x=>
   rw [e] at this;simp only [Option.map_some,jx,Prod.mk.injEq] at this;exact ⟨x,rfl,this.1,this.2.1,this.2.2⟩
 have hmz:¬ ((m:Int)=0):=by omega
 have hz0:=vm hz0;have hz1:=vm hz1;have hz2:=vm hz2;have hnw:=World.news_of_block hv;have HO:=vm hown;have HH:=vm (qd hn hm)
 have hcn:n≤cap:=by
  rcases hown.2 with ⟨e0,e1⟩|⟨g',cap',cur,e0,h1,h2,h3,h4,h5,h6⟩
  ·cases e0;exact qb _
  ·cases e0;exact h3
 have hcap:cap≤9223372036854775807:=by
  rcases hown.2 with ⟨e0,e1⟩|⟨g',cap',cur,e0,h1,h2,h3,h4,h5,h6⟩
  ·cases e0;omega
  ·cases e0;exact h4
 have ha:a=none∧n=0∧cap=0∨∃ g,a=some (Ad g 0):=by
  rcases hown.2 with ⟨e0,e1⟩|⟨g',cap',cur,e0,h1,h2,h3,h4,h5,h6⟩
  ·cases e0;exact Or.inl ⟨rfl,rfl,rfl⟩
  ·cases e0;exact Or.inr ⟨_,rfl⟩
 have HN:Hid (∀ j u,(opCs [o])[j]?=some u→w.cell? (((Ad vb 0):Addr).add j)=some u):=fun j u hj=>hnw j u (by simpa using hj)
 have HM:Hid ((opCs [o]).length=m*6∧0<m∧n+m≤maxLen∧(n+m)*40≤140737488355328):=by
  subst hm;exact ⟨rfl,by omega,by unfold maxLen;omega,by omega⟩
 have hfin:∀ v' w1,w1.ownsRow 0 43 6 v' (n+m) (opCs os++opCs [o])→Grew 43 6 n (.slice a n cap) v' w w1→InsP w n (.slice a n cap) os o (.returned v') w1:=by
  intro v' w1 ho hg;refine ⟨v',rfl,?_,hg.lies,hg.but⟩;unfold OwnO;rw [← hn,List.length_insertIdx,if_pos (qb _),insIdx_eq o _ os (qb _)];simp only [jw,List.drop_length,jd];rw [opCs_app];rw [← hn,hm] at ho;exact ho
 have HF:=vm hfin;clear h hown hn hm hv hnw hfin hcn;rcases ha with ⟨rfl,rfl,rfl⟩|⟨g,rfl⟩
 ·go_enter Tryz.func99,Tryz.ntmps99;go_wp2_with (at_builtin;refine wpList_append_keep _ rfl (.tmp 23) (.tmp 24) 32 rfl 43 io _ 6 40 Tryz.underlying32 hio hz0.out hz1.out hz2.out rfl (by decide) _ _ _ rfl HO.out (Ad vb 0) m vc (opCs [o]) rfl HM.out.1 HN.out (opCs_one _) HM.out.2.1 HM.out.2.2.1 HM.out.2.2.2 ?_;intro v' w1 ho hg;have R1:=vm (HF.out v' w1 ho hg);clear ho hg);go_ret;exact R1.out
 ·go_enter Tryz.func99,Tryz.ntmps99;go_wp2_with (at_builtin;refine wpList_append_keep _ rfl (.tmp 23) (.tmp 24) 32 rfl 43 io _ 6 40 Tryz.underlying32 hio hz0.out hz1.out hz2.out rfl (by decide) _ _ _ rfl HO.out (Ad vb 0) m vc (opCs [o]) rfl HM.out.1 HN.out (opCs_one _) HM.out.2.1 HM.out.2.2.1 HM.out.2.2.2 ?_;intro v' w1 ho hg;have R1:=vm (HF.out v' w1 ho hg);clear ho hg)
  all_goals (go_ret;exact R1.out)
theorem insr_grow (g i n m cap vb vc:Nat) (tA:TypeId) (os:List Opn) (o:Opn) (w:World) (h:OwnO w 0 (.slice (some (Ad g 0)) n cap) os) (hn:os.length=n) (hm:m=1) (hi:i<n) (hroom:cap<n+m) (hbig:n<1099511627776) (hv:w.heap[vb]?=some (.cells (opCs [o]).toArray tA (0,0))) :
  Cs 99 #[.slice (some (Ad g 0)) n cap,I6 i,.slice (some (Ad vb 0)) m vc] w fun e w'=>InsP w i (.slice (some (Ad g 0)) n cap) os o e w':=by
 have hown:w.ownsRow 0 43 6 (.slice (some (Ad g 0)) n cap) n (opCs os):=by have:=h;unfold OwnO at this;rwa [hn] at this
 obtain ⟨io,hio,hz0,hzs,hzb⟩:∃ io,Tryz.prog.info? 43=some io∧io.zero=some (.agg oZ)∧io.size=6∧io.bytes=40:=by
  have:=infoAOp3
  cases e:Tryz.prog.info? 43 with
  | none=>rw [e] at this;cases this
  | some x=>
   rw [e] at this;simp only [Option.map_some,jx,Prod.mk.injEq] at this;exact ⟨x,rfl,this.1,this.2.1,this.2.2⟩
 have hnc:n≤cap:=by
  rcases hown.2 with ⟨e0,e1⟩|⟨g',cap',cur,e0,h1,h2,h3,h4,h5,h6⟩
  ·cases e0
  ·cases e0;exact h3
 have hcell:∀ k,k<n*6→w.cell? (Ad g k)=(opCs os)[k]?:=fun k hk=>za hown k hk;have hol:(opCs os).length=n*6:=by rw [xu,hn]
 have hgw:g<w.heap.size:=(qf hown g rfl).2
 have hvw:vb<w.heap.size:=by
  rcases zr vb w.heap.size with k|k
  ·exact k
  ·rw [Array.getElem?_eq_none k] at hv;cases hv
 have hvc:∀ j u,(opCs [o])[j]?=some u→w.cell? (Ad vb j)=some u:=fun j u hj=>by
  unfold World.cell?;rw [show ((Ad vb j):Addr).block=vb from rfl,hv];simpa using hj
 obtain ⟨V,hV⟩:∃ V,V=opCs [o]:=⟨_,rfl⟩;rw [← hV] at hvc;have hVl:V.length=6:=by rw [hV];rfl
 have hV1:∀ v∈V,v.oneCell'=true:=by rw [hV];exact opCs_one _
 have hz1:¬ ((m:Int)=0):=by omega
 have hz2:¬ ((i:Int)=(n:Int)):=by omega
 have hz3:(cap:Int)<(n:Int)+(m:Int):=by omega
 have hkk:(n:Int)+(m:Int)-(i:Int)=((n+m-i:Nat):Int):=by omega
 have hik:i+(n+m-i)=n+m:=by omega
 have hold:(Builtin.firstCells io.size i (.slice (some (Ad g 0)) i cap)).run Tryz.prog w.drew=.ok ((opCs os).take (i*6)).toArray w.drew:=by
  rw [hzs]
  exact run_firstCells_some w.drew 6 i (Ad g 0) i cap ((opCs os).take (i*6)) (by rw [qm];omega) (fun j v hj=>by
   have hjl:=(zn.1 hj).1;rw [qm] at hjl;rw [Addr.add_lit,q9,← hj,jc (by omega)]
   exact hcell j (by omega))
 have hrz:∀ ty,(Builtin.append_ #[32,3] ty #[.slice (some (Ad g 0)) i cap,I6 ((n:Int)+(m:Int)-(i:Int))]).run Tryz.prog w =
   .ok (.slice (some (Ad w.heap.size 0)) (n+m) (grownCap w (n+m) cap 43)) (w.drew.alloc (.cells (((opCs os).take (i*6)).toArray++Builtin.zeroCells (Value.agg oZ).cells (n+m-i)++Builtin.zeroCells (Value.agg oZ).cells (grownCap w (n+m) cap 43-(n+m))) 43)):=fun ty=>by
  have h:=Lib.run_append_grow_zeros w 32 3 ty 43 io _ .i64 .i64 Tryz.underlying32 Tryz.underlying3 hio hz0 (some (Ad g 0)) i cap ((opCs os).take (i*6)) hold (n+m-i) (by omega) (by omega) (by omega) (by omega) (by rw [hzb];omega) (by rw [hzb,hik];exact growslice_fits hroom (by omega));rw [hik] at h;rw [hkk];exact h
 obtain ⟨G,hG⟩:∃ G,G=grownCap w (n+m) cap 43:=⟨_,rfl⟩;have hGn:n+m≤G:=by rw [hG];exact grownCap_ge w _ _ _
 have hG63:G≤maxLen:=by rw [hG];exact grownCap_le_maxLen w (n+m) cap 43 (by unfold maxLen;omega)
 obtain ⟨ROW,hROW⟩:∃ ROW:Array Value,ROW=((opCs os).take (i*6)).toArray++Builtin.zeroCells (Value.agg oZ).cells (n+m-i)++Builtin.zeroCells (Value.agg oZ).cells (G-(n+m)):=⟨_,rfl⟩;rw [← hG] at hrz;rw [← hROW] at hrz;have hzc:(Value.agg oZ).cells.size=6:=by kernel_rfl
 have hRs:ROW.size=G*6:=by
  rw [hROW];simp only [Array.size_append,ya,qm,hol,Builtin.zeroCells,Array.size_map,yf,hzc];omega
 have hRt:ROW.toList.take (i*6)=(opCs os).take (i*6):=by
  rw [hROW];simp only [Array.toList_append];rw [qr,j8 (by rw [qm,hol];omega)]
 have hdl:(opCs (os.drop i)).length=(n-i)*6:=by rw [xu,qt,hn]
 obtain ⟨W1,hW1⟩:∃ W1,W1=w.drew.alloc (.cells ROW 43):=⟨_,rfl⟩;rw [← hW1] at hrz
 have hN:∀ j,j<(n+m)*6→(W1.cell? (Ad w.heap.size j)).isSome=true:=fun j hj=>by
  rw [hW1,World.cell?_alloc_at (w:=w.drew) ROW _ w.heap.size j rfl,yx (by omega)];rfl
 have hNf:∀ j,W1.frozen? (Ad w.heap.size j)=false:=fun j=>by rw [hW1];exact World.frozen?_alloc_at (w:=w.drew) ROW _ w.heap.size j rfl
 have hOb:∀ j v,w.cell? (Ad g j)=some v→W1.cell? (Ad g j)=some v:=fun j v h=>by rw [hW1,World.cell?_alloc_past (w:=w.drew) _ g j hgw];exact h
 have hOv:∀ j v,w.cell? (Ad vb j)=some v→W1.cell? (Ad vb j)=some v:=fun j v h=>by rw [hW1,World.cell?_alloc_past (w:=w.drew) _ vb j hvw];exact h
 have hcpA:∀ (W:World),(∀ x,W.cell? x=W1.cell? x)→(∀ x,W.frozen? x=W1.frozen? x)→∀ ty dc,(Builtin.copy_ #[32,32] ty #[.slice (some ⟨w.heap.size,i*6,none⟩) (n+m-i) dc,.slice (some (Ad vb 0)) m vc]).run Tryz.prog W=.ok (goInt ((1:Nat):Int)) (W.setCells w.heap.size (i*6) V):=fun W hWc hWf ty dc=>
  xm W _ _ ty 43 w.heap.size (i*6) (n+m-i) dc (Ad vb 0) m vc 6 1 V Tryz.underlying32 infoAOpZ (by simp only [ki];split<;>omega) (by omega)
   (fun j v hj=>by rw [Addr.add_lit,q9,hWc];exact hOv _ v (hvc j v hj))
   (fun j hj=>by rw [hWc];exact hN _ (by omega)) (fun j hj=>by rw [hWf];exact hNf _) hV1
 have hgN:g≠w.heap.size:=by omega
 have hcpB:∀ (W:World),(∀ x,W.cell? x=(W1.setCells w.heap.size (i*6) V).cell? x)→(∀ x,W.frozen? x=(W1.setCells w.heap.size (i*6) V).frozen? x)→∀ ty dc sc,(Builtin.copy_ #[32,32] ty #[.slice (some ⟨w.heap.size,(i+m)*6,none⟩) (n+m-(i+m)) dc,.slice (some ⟨g,i*6,none⟩) (n-i) sc]).run Tryz.prog W=.ok (goInt ((n-i:Nat):Int)) (W.setCells w.heap.size ((i+m)*6) (opCs (os.drop i))):=fun W hWc hWf ty dc sc=>
  xm W _ _ ty 43 w.heap.size ((i+m)*6) (n+m-(i+m)) dc ⟨g,i*6,none⟩ (n-i) sc 6 (n-i) (opCs (os.drop i)) Tryz.underlying32 infoAOpZ (by simp only [ki];split<;>omega) hdl
   (fun j v hj=>by
    have hjl:=(zn.1 hj).1;rw [Addr.add_lit,hWc,World.cell?_setCells_out _ _ _ _ _ (fun h _=>absurd h hgN)];refine hOb _ v ?_
    rw [hcell _ (by omega),← hj,← opCs_drop,ju])
   (fun j hj=>by rw [hWc];exact isSome_setCells w.heap.size V (i*6) W1 (fun t ht=>hN _ (by omega)) _ (hN _ (by omega)))
   (fun j hj=>by rw [hWf,World.frozen?_setCells];exact hNf _) (opCs_one _)
 subst hW1;have hE1:∀ x,((w.alloc (.cells ROW 43)).drew).cell? x=(w.drew.alloc (.cells ROW 43)).cell? x:=fun x=>rfl;have hE2:∀ x,((w.alloc (.cells ROW 43)).drew).frozen? x=(w.drew.alloc (.cells ROW 43)).frozen? x:=fun x=>rfl;have hGi:¬ (G=i):=by omega
 have hGim:¬ (G=i+m):=by omega
 have hci:¬ (cap=i):=by omega
 have hG64:G≤9223372036854775807:=hG63;have hw1:IntKind.i64.wrap ((i:Int)+(m:Int))=(i:Int)+(m:Int):=by rw [IntKind.wrap_i64];omega
 have hb1:(0:Int)≤(i:Int)+(m:Int):=by omega
 have hin:i≤n:=by omega
 have htn:((i:Int)+(m:Int)).toNat=i+m:=by omega
 have hb3:(i:Int)≤(n:Int):=by omega
 have hF1:∀ x,(((w.alloc (.cells ROW 43)).drew.setCells w.heap.size (i*6) V).drew).cell? x=((w.drew.alloc (.cells ROW 43)).setCells w.heap.size (i*6) V).cell? x:=fun x=>rfl;have hF2:∀ x,(((w.alloc (.cells ROW 43)).drew.setCells w.heap.size (i*6) V).drew).frozen? x=((w.drew.alloc (.cells ROW 43)).setCells w.heap.size (i*6) V).frozen? x:=fun x=>rfl;have HH:=vm (qd hRs (qd hRt (qd hn (qd hm (qd hG63 (qd hGn (qd hgw hV)))))));clear h hown hcell hol hvc hkk hik hold hROW hG hRs hRt hzc hdl hN hNf hOb hOv hn hm hv hG63 hzs hzb hz0 hio hVl hV1 hV;go_enter Tryz.func99,Tryz.ntmps99
 go_wp2_with (first
  | (at_builtin;refine Lib.wpList_append_run _ rfl _ _ _ _ rfl _ _ rfl rfl _ _ (hrz _) ?_)
  | (at_builtin;refine wpList_copy_runI _ rfl _ _ 32 32 rfl _ _ rfl rfl (hcpA _ hE1 hE2 _ _) ?_))
 go_region_law (refine step_copy_runI rfl _ _ 32 32 rfl (.slice (some ⟨w.heap.size,(i+m)*6,none⟩) (n+m-(i+m)) (G-(i+m))) (.slice (some ⟨g,i*6,none⟩) (n-i) (cap-i)) (by simp [Act.eval,Act.put]) (by simp [Act.eval,Act.put]) (hcpB _ hF1 hF2 3 (G-(i+m)) (cap-i)) ?_);go_wp2;go_ret;obtain ⟨hRs,hRt,hn,hm,hG63,hGn,hgw,hV⟩:=HH.out;subst hm hV;refine ⟨.slice (some (Ad w.heap.size 0)) (n+1) G,rfl,?_,Or.inr ⟨w.heap.size,rfl,qb _⟩,?_⟩
 ·rw [drew_setCells];refine (own_put2 (ys:=ROW.toList.take ((n+1)*6)) ?_ hn (by omega) ?_).2
  ·refine ⟨by rw [qm,yo,hRs];omega,Or.inr ⟨w.heap.size,G,ROW,rfl,qs _,?_,hGn,hG63,hRs,rfl⟩⟩;show (w.heap.push _)[w.heap.size]?=_;simp
  ·rw [yg,jr (by omega),hRt]
 ·have hb:But (fun b=>some g=some b) w ((w.alloc (.cells ROW 43)).drew):=((But.refl _ _).alloc _).drew
  have hb2:∀ (vs:List Value) (k:Nat) (b:World),But (fun b=>some g=some b) w b→But (fun b=>some g=some b) w (b.setCells w.heap.size k vs):=by
   intro vs
   induction vs with
   | nil=>intro k b hb;exact hb
   | cons v vs ih=>intro k b hb;exact ih (k+1) _ (hb.setCell (Or.inr (qb _)) v)
  exact hb2 _ _ _ (hb2 _ _ _ hb).drew
theorem insr_any (v:Value) (i vb:Nat) (tA:TypeId) (os:List Opn) (o:Opn) (w:World) (h:OwnO w 0 v os) (hi:i≤os.length) (hbig:os.length<1099511627776) (hv:w.heap[vb]?=some (.cells (opCs [o]).toArray tA (0,0))) (hvb:v.ownBlock≠some vb) :
  Cs 99 #[v,I6 i,.slice (some (Ad vb 0)) 1 1] w fun e w'=>InsP w i v os o e w':=by
 obtain ⟨a,cap,rfl⟩:∃ a cap,v=.slice a os.length cap:=by
  rcases h.2 with ⟨e,e1⟩|⟨g,cap,cur,e,_⟩
  ·exact ⟨none,0,by rw [e,e1]⟩
  ·exact ⟨_,_,e⟩
 rcases zr i os.length with hlt|hge
 ·obtain ⟨g,rfl⟩:∃ g,a=some (Ad g 0):=by
   rcases h.2 with ⟨e,e1⟩|⟨g,cap',cur,e,_⟩
   ·omega
   ·cases e;exact ⟨g,rfl⟩
  rcases zr cap (os.length+1) with hc|hc
  ·exact insr_grow g i os.length 1 cap vb 1 tA os o w h rfl rfl hlt hc hbig hv
  ·exact insr_shift g i os.length 1 cap vb 1 tA os o w h rfl rfl hlt hc hv (fun e=>hvb (by rw [e];rfl))
 ·have e:i=os.length:=by omega
  subst e;exact insr_end a os.length 1 cap vb 1 tA os o w h rfl rfl hbig hv
theorem BookIs.came {w w':World} {b:Nat} {st cl ss:Int} {top vW vK:Value} {t:Tr} {ws:List Opn} (h:BookIs w b st cl ss top vW vK t ws) {v':Value} (ho:OwnO w' 0 v' (ws.insertIdx i o)) (hv:v'.ownBlock=vW.ownBlock∨∃ g,v'.ownBlock=some g∧w.heap.size≤g) (hb:But (fun x=>vW.ownBlock=some x) w w') (hk:KeyT o) (hl:ws.length+1<1000000) :
  BookIs (w'.setCell (Ad b 4) v') b st cl ss top v' vK t (ws.insertIdx i o):=by
 have hrow:RowIs w' b 118 7 (rep7 st cl top vW ss vK):=h.row.but hb (fun e=>h.apart e rfl);have hg:15≤w.heap.size:=by have:=h.row.lt;have:=h.far;omega
 have he:Env w':=h.env.but hb (fun x e=>h.wfar x e) hg;have hbl:=h.row.lt
 have hap:∀ g,v'.ownBlock=some g→g≠b:=fun g e=>by
  rcases hv with k|⟨x,k,kx⟩
  ·exact h.apart (k▸e)
  ·rw [k] at e;cases e;omega
 refine ⟨rep_wait hrow _,Qf hrow (by decide) (But.set b 4 _) (isTr_butO h.own hb h.tree),kp ho fun g hg=>heap_setCell_other _ _ _ _ (fun e=>hap g hg e),h.typ,fun x hm=>?_,?_,h.size,he.but (But.set b 4 _) (fun x e=>e▸h.far) (qi hg hb.size),h.far,fun g e=>?_⟩
 ·rcases zr ws.length i with hi|hi
  ·rw [List.insertIdx_of_length_lt hi] at hm;exact h.wtyp x hm
  ·rw [List.mem_insertIdx hi] at hm;rcases hm with rfl|hm
   ·exact hk
   ·exact h.wtyp x hm
 ·rw [List.length_insertIdx];split<;>omega
 ·rcases hv with k|⟨x,k,kx⟩
  ·exact h.wfar g (k▸e)
  ·rw [k] at e;cases e;omega

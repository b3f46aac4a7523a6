import Derived.Test.YtgccjefbedpmpaaGreatDoorJStC
namespace Go.Proofs.YtgccjefbedpmpaaGreatDoor
open Go.RowKit
set_option maxRecDepth 100000
set_option maxHeartbeats 8000000
variable {B n : Nat} {a : Option Addr} {os : List Opn} {rs0 : List Rp} {vl : Value} {w0 w1 : World}
theorem rng_list {t:Tr} (h:ByKey t.list) (lo hi:Int):(t.rng lo hi).list=t.list.filter fun x=>decide (lo≤x.key∧x.key < hi):=by
 have h1:=(cut_list lo t h).2;have h2:ByKey (t.cut lo).2.list:=by rw [h1];exact h.sublist z8
 unfold Tr.rng;rw [(cut_list hi _ h2).1,h1,List.filter_filter];refine List.filter_congr fun x _=>?_;by_cases a:x.key < lo <;> by_cases b:x.key < hi <;> simp [a,b] <;> omega
theorem eqSame (a:ByteArray) (W:World):(Op.equalIn 10000 50 (.agg #[U8 (dig a 0),U8 (dig a 1),U8 (dig a 2)]) (.agg #[U8 (dig a 0),U8 (dig a 1),U8 (dig a 2)])).run Tryz.prog W=.ok true W:=by
 rw [eqDigG];simp
theorem own_base {w:World} {B':Nat} {v:Value} (h:OwnO w B v os) (hb:B'≤B):OwnO w B' v os:=
 ⟨h.1,h.2.via id fun ⟨g,cap,cur,e,l,k⟩=>⟨g,cap,cur,e,qi hb l,k⟩⟩
structure Rest (w W:World) (rs:List Rp) (va:Value) (G:List Opn):Prop where
 many:Many W rs
 own:OwnO W w.heap.size va G
 free:∀ g,va.ownBlock=some g→¬ InR rs g
 below:Bel w W
 far:∀ x,InR rs x→w.heap.size≤x
theorem Rest.start {w W:World} {rs:List Rp} {va:Value} {G:List Opn} (hb0:Bel w w0) (hN:NewS w0 w1 rs0 vl) (hH:HistS rs0 w1 W G rs va G):Rest w W [] va G:=by
 have s0:=hb0.size;have s1:=hN.below.size;have hb1:Bel w w1:=hb0.trans (hN.below.mono s0);refine ⟨⟨fun _ q=>(by cases q),fun _ _ q=>(by cases q)⟩,own_base hH.own (by omega),fun g _ ⟨r,q,_⟩=>(by cases q),⟨hH.moved.but.os.trans hb1.os,hH.moved.but.tape.trans hb1.tape,hH.moved.but.output.trans hb1.output,qi hb1.size hH.moved.but.size,fun i hi=>(hH.moved.but.block i (by omega) fun ⟨r,hr,e⟩=>?_).trans (hb1.block i hi)⟩,fun x ⟨r,q,_⟩=>(by cases q)⟩;obtain ⟨j,hj,rfl⟩:=qw.1 hr;rcases e with e | e
 ·have:=hN.far _ (qn hj);omega
 ·rw [(hN.cl j hj).2.2.2] at e;cases e
theorem hist_start {w:World} (hN:NewS w w1 rs0 vl) (hl:rs0.length=3):HistS rs0 w1 w1 [] rs0 (.slice none 0 0) []:=
 ⟨hN.many,Moved.refl _ _,hl,fun j hj=>by obtain ⟨e1,e2,e3,-⟩:=hN.cl j hj;rw [e2,e3];exact ⟨RepOk.nil _,e1⟩,.nil,⟨rfl,Or.inl ⟨rfl,rfl⟩⟩,fun g e=>by cases e⟩
theorem NewS.cells {w:World} (hN:NewS w w1 rs0 vl) (hl:rs0.length=3):∃ gl cap,vl=.slice (some (Ad gl 0)) 3 cap∧(∀ j (h:j < rs0.length),w1.cell? (Ad gl j)=some (.pointer (some ⟨rs0[j].b,0,none⟩)))∧¬ InR rs0 gl:=by
 have hfree:=hN.free;have ho:=hN.own;rcases ho.2 with ⟨-,q⟩ | ⟨g,cap,cur,e,-⟩
 ·omega
 ·subst e;refine ⟨g,cap,by rw [hl],fun j hj=>?_,hfree g rfl⟩;have:=ho.cells (g:=g) rfl j (.pointer (some ⟨rs0[j].b,0,none⟩)) (by unfold ptrR;simp [hj]);rwa [addN',q9] at this
theorem EdsIs.below {w w':World} {es:List Ed} (h:EdsIs w a es) (hb:Bel w w'):EdsIs w' a es:=by
 rcases h with h | ⟨g,off,e,h⟩
 ·exact Or.inl h
 ·exact Or.inr ⟨g,off,e,fun i hi j hj=>by have q:=h i hi j hj;exact (hb.cell (block_lt_of_cell q)).trans q⟩
theorem EdsIs.far {w:World} {es:List Ed} (h:EdsIs w a es) (hb:Bel w w0) (hN:NewS w0 w1 rs0 vl):es=[]∨∀ g off,a=some (Ad g off)→¬ InR rs0 g:=by
 rcases h with h | ⟨g,off,e,h⟩
 ·exact Or.inl h
 ·rcases Nat.eq_zero_or_pos es.length with q | q
  ·exact Or.inl (zy.1 q)
  ·refine Or.inr fun g' off' e' ⟨r,hr,k⟩=>?_;rw [e] at e';cases e';have hlt:=block_lt_of_cell (h 0 q 0 (by omega));have s0:=hb.size;obtain ⟨j,hj,rfl⟩:=qw.1 hr;have hlt:g < w.heap.size:=hlt;rcases k with k | k
   ·have:=hN.far _ (qn hj);omega
   ·rw [(hN.cl j hj).2.2.2] at k;cases k
theorem ownO_cells {w:World} {g cap:Nat} (h:OwnO w B (.slice (some (Ad g 0)) n cap) os) {i:Nat} (hi:i < os.length):w.cell? ⟨g,i*6,none⟩=some (I6 os[i].kd)∧w.cell? ⟨g,i*6+1,none⟩=some (U3 os[i].cl)∧w.cell? ⟨g,i*6+2,none⟩=some (U3 os[i].ck)∧w.cell? ⟨g,i*6+3,none⟩=some (U3 os[i].st)∧w.cell? ⟨g,i*6+4,none⟩=some (U6 os[i].rf)∧w.cell? ⟨g,i*6+5,none⟩=some (I3 os[i].ch):=by
 have:=(OwnO.at0 h).cells hi;simp only [q9] at this;exact this
theorem ownO_some {w:World} {c:Nat} (h:OwnO w B (.slice a n c) os) (h0:0 < os.length):∃ g,a=some (Ad g 0):=by
 rcases h.2 with ⟨-,q⟩ | ⟨g,cap,cur,e,-⟩
 ·omega
 ·simp only [Value.slice.injEq] at e;exact ⟨g,e.1⟩

import Derived.Test.YtgccjefbedpmpaaGreatDoorYLess
import Derived.Test.YtgccjefbedpmpaaGreatDoorYSum
import Derived.Test.YtgccjefbedpmpaaGreatDoorYMem
import Derived.Deep.QuietTactic
import Derived.BigQuiet
import Derived.ArgAppend
import Derived.Deep.Upon
import Derived.Deep.AppendLies
namespace Go.Proofs.YtgccjefbedpmpaaGreatDoor
section
open Go.RowKit
set_option maxRecDepth 100000
set_option maxHeartbeats 8000000
def P (i:Nat):Int:=(pl 310)[i]?.getD 0
def rt (k1 k2 j:Nat):Value:=U3 (if j<k2 then ptF (P j) 2 37 % 4294967296 else if 8≤j∧j<8+k1 then ptF (P (j-8)) 3 37 % 4294967296 else 0)
theorem z72:#[U3 0,U3 0,U3 0,U3 0,U3 0,U3 0,U3 0,U3 0,U3 0,U3 0,U3 0,U3 0,U3 0,U3 0,U3 0,U3 0,U3 0,U3 0,U3 0,U3 0,U3 0,U3 0,U3 0,U3 0,U3 0,U3 0,U3 0,U3 0,U3 0,U3 0,U3 0,U3 0,U3 0,U3 0,U3 0,U3 0,U3 0,U3 0,U3 0,U3 0,U3 0,U3 0,U3 0,U3 0,U3 0,U3 0,U3 0,U3 0,U3 0,U3 0,U3 0,U3 0,U3 0,U3 0,U3 0,U3 0,U3 0,U3 0,U3 0,U3 0,U3 0,U3 0,U3 0,U3 0,U3 0,U3 0,U3 0,U3 0,U3 0,U3 0,U3 0,U3 0]=rowOf 72 (rt 0 0):=by
 have:rowOf 72 (fun _=>U3 0)=rowOf 72 (rt 0 0):=xv fun j _=>by unfold rt;rw [if_neg (by omega),if_neg (by omega)]
 rw [← this];rfl
theorem pl_eq:pl 310=[2,3,5,7,11,13,17,19,23,29,31,37,41,43,47,53,59,61,67,71,73,79,83,89,97,101,103,107,109,113,127,131,137,139,149,151,157,163,167,173,179,181,191,193,197,199,211,223,227,229,233,239,241,251,257,263,269,271,277,281,283,293,307,311]:=by decide +kernel
theorem P3:P 3=7:=by rw [P,pl_eq];rfl
def KK (j:Nat):Int:=[1116352408,1899447441,3049323471,3921009573,961987163,1508970993,2453635748,2870763221,3624381080,310598401,607225278,1426881987,1925078388,2162078206,2614888103,3248222580,3835390401,4022224774,264347078,604807628,770255983,1249150122,1555081692,1996064986,2554220882,2821834349,2952996808,3210313671,3336571891,3584528711,113926993,338241895,666307205,773529912,1294757372,1396182291,1695183700,1986661051,2177026350,2456956037,2730485921,2820302411,3259730800,3345764771,3516065817,3600352804,4094571909,275423344,430227734,506948616,659060556,883997877,958139571,1322822218,1537002063,1747873779,1955562222,2024104815,2227730452,2361852424,2428436474,2756734187,3204031479,3329325298].getD j 0
def RV (j:Nat):Int:=if j<8 then H0 j else KK (j-8)
def mB (m:ByteArray) (i:Nat):Int:=((m.data.toList[i]?.getD 0).toNat:Int)
end
section
open Go.RowKit
set_option maxRecDepth 100000
set_option maxHeartbeats 8000000
variable {X : Nat→Prop} {a b : World} {e g n : Nat} {f : Nat→Value} {v : Value} {xs : List Value}
theorem kp {w w':World} {base size:Nat} (h:w.ownsRow base e size v n xs) (hf:∀ g,v.ownBlock=some g→w'.heap[g]?=w.heap[g]?):w'.ownsRow base e size v n xs:=by
 refine ⟨h.1,?_⟩;rcases h.2 with h2|⟨g,cap,cur,rfl,h3,h4,h5,h6,h7,h8⟩
 ·exact .inl h2
 ·exact .inr ⟨g,cap,cur,rfl,h3,(hf g rfl).trans h4,h5,h6,h7,h8⟩
theorem xt {w:World} {base size:Nat} (h:w.ownsRow base e size v n xs) :
  ∃ ao cap,v=.slice ao n cap∧∀ i,i<n→∃ g,ao=some (Ad g 0)∧∀ j,j<n*size→w.cell? (Ad g j)=xs[j]?:=by
 rcases h.2 with ⟨rfl,rfl⟩|⟨g,cap,cur,rfl,hb,hh,hn,hm,hc,ht⟩
 ·exact ⟨none,0,rfl,fun i hi=>absurd hi (by omega)⟩
 ·exact ⟨_,cap,rfl,fun i hi=>⟨g,rfl,fun j hj=>h.cellAt j hj⟩⟩
theorem own_type {w:World} {size:Nat} (h:w.ownsRow 0 e size v n xs) (hg:v.ownBlock=some g):∃ cur,w.heap[g]?=some (.cells cur e (0,0)):=by
 rcases h.2 with ⟨rfl,_⟩|⟨g',cap,cur,rfl,h3,h4,_⟩
 ·cases hg
 ·cases hg;exact ⟨cur,h4⟩
theorem own_apart {w:World} {size e' size' n':Nat} {v':Value} {xs':List Value} (h:w.ownsRow 0 e size v n xs) (h':w.ownsRow 0 e' size' v' n' xs') (he:e≠e') (hg:v.ownBlock=some g):v'.ownBlock≠some g:=fun hg'=>by
 obtain ⟨c,hc⟩:=own_type h hg;obtain ⟨c',hc'⟩:=own_type h' hg';rw [hc] at hc';cases hc';exact he rfl
theorem xf {w:World} {size:Nat} (h:w.ownsRow 0 e size v n xs) {hb t k:Nat} (hr:RowIs w hb t k f) (he:e≠t) (hg:v.ownBlock=some g):g≠hb:=fun e1=>by
 subst e1;obtain ⟨c,hc⟩:=own_type h hg;unfold RowIs at hr;rw [hc] at hr;cases hr;exact he rfl
structure But (X:Nat→Prop) (w wr:World):Prop where
 size:w.heap.size≤wr.heap.size
 os:wr.os=w.os
 tape:wr.tape=w.tape
 output:wr.output=w.output
 block:∀ b,b<w.heap.size→¬ X b→wr.heap[b]?=w.heap[b]?
theorem But.refl (X:Nat→Prop) (w:World):But X w w:=⟨qb _,rfl,rfl,rfl,fun _ _ _=>rfl⟩
theorem But.trans {c:World} (h:But X a b) (k:But X b c):But X a c:=⟨qi h.size k.size,k.os.trans h.os,k.tape.trans h.tape,k.output.trans h.output,fun i hi hx=>(k.block i (ql hi h.size) hx).trans (h.block i hi hx)⟩
theorem But.mono {Y:Nat→Prop} (h:But X a b) (hxy:∀ b,X b→Y b):But Y a b:=⟨h.size,h.os,h.tape,h.output,fun i hi hx=>h.block i hi fun e=>hx (hxy _ e)⟩
theorem But.below (h:Bel a b):But X a b:=⟨h.size,h.os,h.tape,h.output,fun i hi _=>h.block i hi⟩
theorem But.drew (h:But X a b):But X a b.drew:=⟨h.size,h.os,h.tape,h.output,h.block⟩
theorem But.setCell (h:But X a b) {p:Addr} (hp:X p.block∨a.heap.size≤p.block) (v:Value):But X a (b.setCell p v):=
 ⟨by simpa [World.setCell] using h.size,h.os,h.tape,h.output,fun i hi hx=>(heap_setCell_other _ _ _ _ (fun e=>by rcases hp with hp|hp;exact hx (e▸hp);omega)).trans (h.block i hi hx)⟩
theorem But.alloc (h:But X a b) (o:Obj):But X a (b.alloc o):=h.trans (But.below ((qj _ _).alloc (qb _) o))
theorem RowIs.but {w wr:World} {t:TypeId} (h:RowIs w g t n f) (hb:But X w wr) (hg:¬ X g):RowIs wr g t n f:=by
 unfold RowIs;rw [hb.block g h.lt hg];exact h
end
section
open Go.RowKit
set_option maxRecDepth 100000
set_option maxHeartbeats 8000000
variable {a : Act} {n : Nat}
theorem setCells_row (g:Nat) (e:TypeId):∀ (vs:List Value) (o:Nat) (w:World) (cur:Array Value),w.heap[g]?=some (.cells cur e (0,0))→o+vs.length≤cur.size →
  ∃ cur',(w.setCells g o vs).heap[g]?=some (.cells cur' e (0,0))∧cur'.size=cur.size∧(∀ j,j<o→cur'[j]?=cur[j]?)∧∀ j,j<vs.length→cur'[o+j]?=vs[j]?
 | [],_,w,cur,h,_=>⟨cur,h,rfl,fun _ _=>rfl,fun j hj=>absurd hj (by simp)⟩
 | v::r,o,w,cur,h,hl=>by
  have hl':o+(r.length+1)≤cur.size:=hl;obtain ⟨cur',h1,h2,h3,h4⟩:=setCells_row g e r (o+1) (w.setCell (Ad g o) v) (cur.setIfInBounds o v) (heap_setCell_same _ _ _ _ _ _ h) (by simp;omega);refine ⟨cur',h1,by simpa using h2,fun j hj=>?_,fun j hj=>?_⟩
  ·rw [h3 j (by omega),Array.getElem?_setIfInBounds,if_neg (by omega)]
  ·match j with
   | 0=>rw [y8,h3 o (by omega),Array.getElem?_setIfInBounds,if_pos rfl,if_pos (by omega)];rfl
   | j+1=>
    have:=h4 j (by simpa using hj);rw [show o+(j+1)=o+1+j by omega,this];rfl
theorem setCells_size (g:Nat):∀ (vs:List Value) (o:Nat) (w:World),(w.setCells g o vs).heap.size=w.heap.size∧(w.setCells g o vs).tape=w.tape
 | [],_,_=>⟨rfl,rfl⟩
 | v::r,o,w=>by
  obtain ⟨h1,h2⟩:=setCells_size g r (o+1) (w.setCell (Ad g o) v);exact ⟨by rw [World.setCells,h1];simp [World.setCell],by rw [World.setCells,h2];rfl⟩
structure Grew (e size n:Nat) (v v':Value) (w w':World):Prop where
 but:But (fun b=>v.ownBlock=some b) w w'
 pre:∀ g cur,v.ownBlock=some g→w.heap[g]?=some (.cells cur e (0,0))→∃ cur',w'.heap[g]?=some (.cells cur' e (0,0))∧cur'.size=cur.size∧cur'.toList.take (n*size)=cur.toList.take (n*size)
 lies:v'.ownBlock=v.ownBlock∨∃ g,v'.ownBlock=some g∧w.heap.size≤g
theorem Grew.of_grown {e size:Nat} {v v':Value} {w w':World} (hg:w.grownBy w' none) (hlt:∀ g,v.ownBlock=some g→g<w.heap.size) (hl:v'.ownBlock=v.ownBlock∨∃ g,v'.ownBlock=some g∧w.heap.size≤g):Grew e size n v v' w w':=
 ⟨⟨hg.size,hg.os,hg.tape,hg.output,fun b hb _=>hg.block b hb (by simp)⟩,fun g cur hv hc=>⟨cur,(hg.block g (hlt g hv) (by simp)).trans hc,rfl,rfl⟩,hl⟩
theorem take_eq_of {a b:List Value} {k:Nat} (h:∀ j,j<k→a[j]?=b[j]?):a.take k=b.take k:=by
 apply List.ext_getElem?;intro j;by_cases hj:j<k
 ·rw [jc hj,jc hj,h j hj]
 ·rw [zj (by simp;omega),zj (by simp;omega)]
theorem run_append_keep {P:Program} (w:World) (t ty e:TypeId) (i:TypeInfo) (z:Value) (size bytes:Nat) (ht:P.underlying t=some (.slice e)) (hi:P.info? e=some i) (hz:i.zero=some z)
  (hsize:i.size=size) (hby:i.bytes=bytes) (hzs:z.cells.size=size) (hsz:0<size) (v:Value) (n:Nat) (xs:List Value) (hown:w.ownsRow 0 e size v n xs)
  (a:Addr) (m c:Nat) (news:List Value) (hl:news.length=m*size) (hnews:∀ j u,news[j]?=some u→w.cell? (a.add j)=some u) (h1:∀ u∈news,u.oneCell'=true)
  (_hm:0<m) (h63:n+m≤maxLen) (hbytes:(n+m)*bytes≤140737488355328) :
  ∃ v' w',(Builtin.append_ #[t,t] ty #[v,.slice (some a) m c]).run P w=.ok v' w'∧w'.ownsRow 0 e size v' (n+m) (xs++news)∧Grew e size n v v' w w':=by
 have hlt:=fun g hg=>(hown.lt g hg).2;rcases hown.2 with ⟨rfl,rfl⟩|⟨g,cap,cur,rfl,h3,h4,h5,h6,h7,h8⟩
 ·obtain ⟨v',w',hr,ho,hg,hn,hb⟩:=run_append_own_at (P:=P) w 0 t ty e i z size bytes ht hi hz hsize hby hzs hsz _ _ xs hown a m c news hl hnews h1 h63 hbytes (qs _);exact ⟨v',w',hr,ho,Grew.of_grown hg hlt (hb.elim Or.inl fun hb=>Or.inr ⟨_,hb,qb _⟩)⟩
 ·have hxl:xs.length=n*size:=hown.1;by_cases hroom:n+m≤cap
  ·have hmul:n*size+m*size≤cap*size:=by rw [← Nat.add_mul];exact Nat.mul_le_mul_right _ hroom
   obtain ⟨cur',k1,k2,k3,k4⟩:=setCells_row g e news (n*size) w cur h4 (by omega);have hpre:cur'.toList.take (n*size)=cur.toList.take (n*size):=take_eq_of fun j hj=>by simpa using k3 j hj
   have hrun:=run_append_room_cells (P:=P) w t ty e i ht hi g 0 n cap a m c news (by rw [hl,hsize]) hnews h1 hroom (fun j hj=>by
    rw [hsize,q9,cell_of_row _ _ _ _ _ _ h4,yx (by omega)];rfl) (fun j hj=>frozen_of_row _ _ _ _ _ h4)
   rw [hsize,q9] at hrun;refine ⟨_,_,hrun,⟨by rw [qe,hxl,hl,Nat.add_mul],.inr ⟨g,cap,cur',rfl,qs _,k1,hroom,h6,by rw [k2,h7],?_⟩⟩,⟨?_,?_,Or.inl rfl⟩⟩
   ·apply List.ext_getElem?;intro j;by_cases hj:j<n*size
    ·rw [yv (by omega),← h8,← hpre,jc hj,jc (by rw [Nat.add_mul];omega)]
    ·by_cases hj2:j<(n+m)*size
     ·have hj3:j-n*size<news.length:=by rw [Nat.add_mul] at hj2;omega
      have:=k4 (j-n*size) hj3;rw [show n*size+(j-n*size)=j by omega] at this;rw [j9 (by omega),hxl,jc hj2,Array.getElem?_toList,this]
     ·rw [zj (by simp;omega),zj (by rw [qe,hxl,hl,← Nat.add_mul];omega)]
   ·obtain ⟨s1,s2⟩:=setCells_size g news (n*size) w;refine ⟨by rw [s1];exact qb _,World.os_setCells _ _ _ _,s2,World.output_setCells _ _ _ _,fun b hb hx=>World.heap_setCells_other _ _ _ _ hb (fun e=>hx (by rw [e];rfl))⟩
   ·intro g' cur0 hg' hc0;cases hg';rw [h4] at hc0;cases hc0;exact ⟨cur',k1,k2,hpre⟩
  ·obtain ⟨v',w',hr,ho,hg⟩:=run_append_arg_grows (P:=P) w t ty e i z size bytes ht hi hz hsize hby hzs hsz (Ad g 0) n cap xs hxl (fun j u hj=>hown.cells rfl j u hj) a m c news hl hnews (by omega) h63 hbytes;obtain ⟨g',cap',rfl,hg1,_⟩:=ho.form (by omega);refine ⟨_,w',hr,⟨ho.1,?_⟩,Grew.of_grown hg hlt (Or.inr ⟨g',rfl,hg1⟩)⟩;rcases ho.2 with ⟨h,_⟩|⟨g2,c2,cur2,q1,q2,q3⟩
   ·cases h
   ·exact .inr ⟨g2,c2,cur2,q1,qs _,q3⟩
theorem wp_append_keep {P:Program} {o:Oper} {w:World} {K:Act→World→Prop} {Q:Exit→Act→World→Prop} (s x:Operand) (t:TypeId) (ho:o.op=.call { callee:=.builtin .append,args:=#[s,x],argTypes:=#[t,t] })
  (e:TypeId) (i:TypeInfo) (z:Value) (size bytes:Nat) (ht:P.underlying t=some (.slice e)) (hi:P.info? e=some i) (hz:i.zero=some z) (hsize:i.size=size) (hby:i.bytes=bytes) (hzs:z.cells.size=size) (hsz:0<size)
  (v:Value) (n:Nat) (xs:List Value) (hs:a.eval s=v) (hown:w.ownsRow 0 e size v n xs) (ad:Addr) (m c:Nat) (news:List Value) (hx:a.eval x=.slice (some ad) m c) (hl:news.length=m*size) (hnews:∀ j u,news[j]?=some u→w.cell? (ad.add j)=some u) (h1:∀ u∈news,u.oneCell'=true)
  (hm:0<m) (h63:n+m≤maxLen) (hbytes:(n+m)*bytes≤140737488355328)
  (h:∀ v' w',w'.ownsRow 0 e size v' (n+m) (xs++news)→Grew e size n v v' w w'→K (a.put o.dst v') w'):o.wp P a w K Q:=by
 obtain ⟨v',w',hrun,r1,r2⟩:=run_append_keep (P:=P) w t o.type e i z size bytes ht hi hz hsize hby hzs hsz v n xs hown ad m c news hl hnews h1 hm h63 hbytes;unfold Oper.wp;simp [execOp,ho,resolve,invoke,builtin,hs,hx,hrun,Result.andThen];exact h v' w' r1 r2
theorem wpList_append_keep {P:Program} (w:World) {ops:Array Oper} {rest:List Oper} {o:Oper} {Q:Exit→Act→World→Prop} (hgd:o.guard=none) (s x:Operand) (t:TypeId) (ho:o.op=.call { callee:=.builtin .append,args:=#[s,x],argTypes:=#[t,t] })
  (e:TypeId) (i:TypeInfo) (z:Value) (size bytes:Nat) (ht:P.underlying t=some (.slice e)) (hi:P.info? e=some i) (hz:i.zero=some z) (hsize:i.size=size) (hby:i.bytes=bytes) (hzs:z.cells.size=size) (hsz:0<size)
  (v:Value) (n:Nat) (xs:List Value) (hs:a.eval s=v) (hown:w.ownsRow 0 e size v n xs) (ad:Addr) (m c:Nat) (news:List Value) (hx:a.eval x=.slice (some ad) m c) (hl:news.length=m*size) (hnews:∀ j u,news[j]?=some u→w.cell? (ad.add j)=some u) (h1:∀ u∈news,u.oneCell'=true)
  (hm:0<m) (h63:n+m≤maxLen) (hbytes:(n+m)*bytes≤140737488355328)
  (h:∀ v' w',w'.ownsRow 0 e size v' (n+m) (xs++news)→Grew e size n v v' w w'→wpList P ops Q rest (a.put o.dst v') w'):wpList P ops Q (o::rest) a w:=
 wpList_plain hgd fun _ hK=>wp_append_keep s x t ho e i z size bytes ht hi hz hsize hby hzs hsz v n xs hs hown ad m c news hx hl hnews h1 hm h63 hbytes fun v' w' h2 h3=>hK _ _ (h v' w' h2 h3)
theorem infoO:(Tryz.prog.info? 43).map (fun i=>(i.zero,i.size,i.bytes))=some (some (.agg oZ),6,40):=by kernel_rfl
theorem RowIs.drewM {w:World} {g:Nat} {t:TypeId} {f:Nat→Value} (h:RowIs w g t n f) (k:Nat):RowIs (w.drewN k) g t n f:=h
theorem u64r (x:Int) (h:0≤x∧x≤18446744073709551615):IntKind.u64.wrap x=x:=by
 have e:IntKind.u64.wrap x=x % 18446744073709551616:=by
  simp [IntKind.wrap,IntKind.bits,IntKind.signed]
 rw [e];omega
end

import Derived.Test.YtgccjefbedpmpaaGreatDoorYWPack
import Derived.Test.YtgccjefbedpmpaaGreatDoorYCmp
namespace Go.Proofs.YtgccjefbedpmpaaGreatDoor
open Go.RowKit
set_option maxRecDepth 100000
set_option maxHeartbeats 8000000
variable {B box g i n tb : Nat} {W2 w' w0 : World} {o : Opn} {os : List Opn} {v vG vI vT : Value}
def tel3 (vI vG vT:Value):Nat→Value
 | 0=>vI
 | 1=>vG
 | _=>vT
theorem cmpL (a b:Int):cmpI a b<0↔a<b:=by unfold cmpI;(repeat' split)<;>omega
def ByRf (os:List Opn):Prop:=os.Pairwise fun x y=>x.rf≤y.rf
theorem ByRf.bs (h:ByRf os) (tg:Int):BsM (fun o=>cmpI o.rf tg) os:=fun p q hpq hq hc=>by
 have h1:=zl.1 h p q (by omega) hq hpq;have h2:=(cmpL _ _).1 hc;exact (cmpL _ _).2 (by omega)
def hangs (ins:List Opn) (ref:Int):List Opn:=ins.filter fun o=>decide (o.rf=ref)
theorem hang_eq {ins:List Opn} {ref:Int} {j:Nat} (hi:BsP (fun o=>cmpI o.rf ref) ins i) (hj:BsP (fun o=>cmpI o.rf (ref+1)) ins j):i≤j∧(ins.drop i).take (j-i)=hangs ins ref:=by
 have a1:∀ k (h:k<ins.length),k<i→ins[k].rf<ref:=fun k h hk=>(cmpL _ _).1 (hi.ahead k h hk);have a2:∀ k (h:k<ins.length),i≤k→¬ ins[k].rf<ref:=fun k h hk h3=>by have h4:=hi.behind k h hk;have h5:=(cmpL _ _).2 h3;omega
 have b1:∀ k (h:k<ins.length),k<j→ins[k].rf<ref+1:=fun k h hk=>(cmpL _ _).1 (hj.ahead k h hk);have b2:∀ k (h:k<ins.length),j≤k→¬ ins[k].rf<ref+1:=fun k h hk h3=>by have h4:=hj.behind k h hk;have h5:=(cmpL _ _).2 h3;omega
 have li:=hi.le;have lj:=hj.le
 have hij:i≤j:=by
  rcases zr j i with h|h
  ·have h1:=a1 j (by omega) h;have h2:=b2 j (by omega) (qb _);omega
  ·exact h
 refine ⟨hij,?_⟩
 have e:ins=ins.take i++((ins.drop i).take (j-i)++ins.drop j):=by
  have:ins.drop j=(ins.drop i).drop (j-i):=by rw [yt];congr 1;omega
  rw [this,jh,jh]
 have f1:(ins.take i).filter (fun o=>decide (o.rf=ref))=[]:=by
  rw [List.filter_eq_nil_iff];intro o ho;obtain ⟨k,hk,rfl⟩:=qw.1 ho;rw [qm] at hk;rw [jq,decide_eq_true_eq];have:=a1 k (by omega) (by omega);omega
 have f3:(ins.drop j).filter (fun o=>decide (o.rf=ref))=[]:=by
  rw [List.filter_eq_nil_iff];intro o ho;obtain ⟨k,hk,rfl⟩:=qw.1 ho;rw [qt] at hk;rw [yk,decide_eq_true_eq];have:=b2 (j+k) (by omega) (by omega);omega
 have f2:((ins.drop i).take (j-i)).filter (fun o=>decide (o.rf=ref))=(ins.drop i).take (j-i):=by
  rw [je];intro o ho;obtain ⟨k,hk,rfl⟩:=qw.1 ho;rw [qm,qt] at hk;rw [jq,yk,decide_eq_true_eq];have h1:=a2 (i+k) (by omega) (by omega);have h2:=b1 (i+k) (by omega) (by omega);omega
 unfold hangs
 conv=>rhs;rw [e]
 rw [zt,zt,f1,f2,f3,jd,zw]
theorem OpsAt.part {w:World} {off:Nat} (h:OpsAt w g off os) (i n:Nat):OpsAt w g (off+i*6) ((os.drop i).take n):=fun k hk j hj=>by
 rw [qm,qt] at hk;have:=h (i+k) (by omega) j hj;rw [jq,yk,← this];congr 2;omega
theorem tfirst_any (tb:Nat) (vG vT:Value) (a:Option Addr) (cap:Nat) (ins:List Opn) (ref:Int) (w:World) (hR:RowIs w tb 306 3 (tel3 (.slice a ins.length cap) vG vT)) (hO:OpsIs w a ins) (hn:ins.length<4611686018427387904) (hs:ByRf ins) :
  Cs 313 #[(pt tb 0),U6 ref] w fun e w'=>(∃ i,BsP (fun o=>cmpI o.rf ref) ins i∧e=.returned (I6 i))∧Bel w w':=by
 have c0:w.cell? (Ad tb 0)=some (.slice a ins.length cap):=hR.cell (j:=0) (by omega);have HB:Hid (Calls _ _ _ _ _):=bsf_any 329 (fun o=>cmpI o.rf ref) ref a cap ins w (enters_of Tryz.func329 (by kernel_rfl) rfl) (fun o _ W=>first1_any o ref W) hO hn (hs.bs ref);clear hR hO hn hs;go_enter Tryz.func313,Tryz.ntmps313;go_wp2_with (go_at_call 166;refine HB.out.mono ?_;rintro e w1 ⟨⟨i,hi,rfl⟩,hb1⟩);go_ret;exact ⟨⟨i,hi,rfl⟩,hb1⟩
def HangP (B:Nat) (vI:Value) (ins hs:List Opn) (e:Ending):Prop:=∃ a c,e=.returned (.slice a hs.length c)∧∀ W,OwnO W B vI ins→OpsIs W a hs
theorem OwnO.opsAt {w:World} {c:Nat} (h:OwnO w B (.slice (some (Ad g 0)) n c) os):OpsAt w g 0 os:=(OwnO.is h).elim (fun e=>by subst e;intro i hi;cases hi) (fun ⟨g',off,e,k⟩=>by cases e;exact k)
structure TelS (w W:World) (tb:Nat) (vI:Value):Prop where
 below:Bel w W
 c0:W.cell? (Ad tb 0)=some vI
theorem TelS.kept {w W:World} (h:TelS w W tb vI) (hb:Bel W W2):TelS w W2 tb vI:=⟨h.below.trans (hb.mono h.below.size),(hb.cell (block_lt_of_cell h.c0)).trans h.c0⟩
theorem TelS.drew {w W:World} (h:TelS w W tb vI):TelS w W.drew tb vI:=⟨h.below.drew,h.c0⟩
theorem hanging_any (tb B:Nat) (vI vG vT:Value) (ins:List Opn) (ref:Int) (w:World) (hR:RowIs w tb 306 3 (tel3 vI vG vT)) (hO:OwnO w B vI ins) (hn:ins.length<4611686018427387904) (hs:ByRf ins) (hr:0≤ref∧ref<18446744073709551615) :
  Cs 271 #[(pt tb 0),U6 ref] w fun e w'=>HangP B vI ins (hangs ins ref) e∧Bel w w':=by
 have e1:IntKind.u64.wrap (ref+1)=ref+1:=by rw [IntKind.wrap_u64];omega
 rcases hO.2 with ⟨rfl,h0⟩|⟨g,cap,cur,rfl,h3,h4,h5,h6,h7,h8⟩
 ·obtain rfl:ins=[]:=jm h0;have hT0:TelS w w tb (.slice none 0 0):=⟨qj _ _,hR.cell (j:=0) (by omega)⟩;have H1:Hid (∀ W,Bel w W→Cs 313 #[(pt tb 0),U6 ref] W fun e w'=>(∃ i,i=0∧e=.returned (I6 ((i:Nat):Int)))∧Bel W w'):=fun W hW=>(tfirst_any tb vG vT none 0 [] ref W (hR.below hW hR.lt) (Or.inl rfl) (by decide) List.Pairwise.nil).mono fun e w' h=>⟨h.1.elim fun i q=>⟨i,Nat.le_zero.1 q.1.le,q.2⟩,h.2⟩;have H2:Hid (∀ W,Bel w W→Cs 313 #[(pt tb 0),U6 (ref+1)] W fun e w'=>(∃ i,i=0∧e=.returned (I6 ((i:Nat):Int)))∧Bel W w'):=fun W hW=>(tfirst_any tb vG vT none 0 [] (ref+1) W (hR.below hW hR.lt) (Or.inl rfl) (by decide) List.Pairwise.nil).mono fun e w' h=>⟨h.1.elim fun i q=>⟨i,Nat.le_zero.1 q.1.le,q.2⟩,h.2⟩;have HT:Hid (TelS w w tb (.slice none 0 0)):=hT0;clear hR hO hn hs hr hT0;go_enter Tryz.func271,Tryz.ntmps271;go_wp2;refine wp_region_held_drew (S:=fun w'=>TelS w w' tb (.slice none 0 0)) (by kernel_rfl) HT.out.drew (fun hHeld=>?_);clear HT;generalize World.drew _=wD at hHeld ⊢;refine ks 0 5 ?_;refine ks 1 6 ?_;refine ks 2 7 ?_;refine x9 3 8 (fun _ h=>TelS.c0 h) ?_;refine ks 4 9 ?_;refine ks 5 10 ?_;refine ks 7 12 ?_;refine ks 8 13 ?_;refine ks 9 14 ?_;refine rd 6 (some 11) rfl (fun K hK=>?_);go_simp;refine (H1.out _ hHeld.below).mono ?_;rintro e w1 ⟨⟨i,hi,rfl⟩,hbg⟩;subst hi;refine hK.out _ _ (hHeld.kept hbg) (fun hHeld=>?_);clear hK K hbg;refine rd 10 (some 15) rfl (fun K hK=>?_);go_simp;refine (H2.out _ hHeld.below).mono ?_;rintro e w2 ⟨⟨j,hj,rfl⟩,hbg⟩;subst hj;refine hK.out _ _ (hHeld.kept hbg) (fun hHeld=>?_);clear hK K hbg;refine ks 11 16 ?_;refine rdg 12 (some 4) ?_;refine xy ?_;go_wp2_with fail;go_ret;exact ⟨⟨none,0,rfl,fun _ _=>Or.inl rfl⟩,hHeld.below⟩
 ·have hlc:ins.length≤cap:=h5;have hT0:TelS w w tb (.slice (some (Ad g 0)) ins.length cap):=⟨qj _ _,hR.cell (j:=0) (by omega)⟩;have H1:Hid (∀ W,Bel w W→Cs 313 #[(pt tb 0),U6 ref] W fun e w'=>(∃ i,BsP (fun o=>cmpI o.rf ref) ins i∧e=.returned (I6 i))∧Bel W w'):=fun W hW=>tfirst_any tb vG vT _ cap ins ref W (hR.below hW hR.lt) ((OwnO.is hO).below hW) hn hs;have H2:Hid (∀ W,Bel w W→Cs 313 #[(pt tb 0),U6 (ref+1)] W fun e w'=>(∃ i,BsP (fun o=>cmpI o.rf (ref+1)) ins i∧e=.returned (I6 i))∧Bel W w'):=fun W hW=>tfirst_any tb vG vT _ cap ins (ref+1) W (hR.below hW hR.lt) ((OwnO.is hO).below hW) hn hs;have HT:Hid (TelS w w tb (.slice (some (Ad g 0)) ins.length cap)):=hT0;clear hR hO hn hs hr hT0 h3 h4 h5 h6 h7 h8;go_enter Tryz.func271,Tryz.ntmps271;go_wp2;refine wp_region_held_drew (S:=fun w'=>TelS w w' tb (.slice (some (Ad g 0)) ins.length cap)) (by kernel_rfl) HT.out.drew (fun hHeld=>?_);clear HT;generalize World.drew _=wD at hHeld ⊢;refine ks 0 5 ?_;refine ks 1 6 ?_;refine ks 2 7 ?_;refine x9 3 8 (fun _ h=>TelS.c0 h) ?_;refine ks 4 9 ?_;refine ks 5 10 ?_;refine ks 7 12 ?_;refine ks 8 13 ?_;refine ks 9 14 ?_;refine rd 6 (some 11) rfl (fun K hK=>?_);go_simp;refine (H1.out _ hHeld.below).mono ?_;rintro e w1 ⟨⟨i,hi,rfl⟩,hbg⟩;refine hK.out _ _ (hHeld.kept hbg) (fun hHeld=>?_);clear hK K hbg;refine rd 10 (some 15) rfl (fun K hK=>?_);go_simp;refine (H2.out _ hHeld.below).mono ?_;rintro e w2 ⟨⟨j,hj,rfl⟩,hbg⟩;have hq:=hang_eq hi hj;have hl:=hj.le;have z1:(i:Int)≤(j:Int):=by have:=hq.1;omega
  have z2:(j:Int)≤(cap:Int):=by omega
  have HQ:Hid ((ins.drop i).take (j-i)=hangs ins ref∧j≤ins.length∧i≤j):=⟨hq.2,hl,hq.1⟩;clear hq hl hi hj;refine hK.out _ _ (hHeld.kept hbg) (fun hHeld=>?_);clear hK K hbg;refine ks 11 16 ?_;refine rdg 12 (some 4) ?_;refine xy ?_;go_wp2_with fail
  ·go_ret;obtain ⟨q1,q2,q3⟩:=HQ.out;have e0:hangs ins ref=[]:=jm (by rw [← q1,qm,qt];omega);refine ⟨⟨some (Ad g 0),0,?_,fun _ _=>Or.inl e0⟩,hHeld.below⟩;rw [e0];have:j-i=0:=by omega
   simp [this]
  ·go_ret;obtain ⟨q1,q2,q3⟩:=HQ.out;refine ⟨⟨some ⟨g,i*6,none⟩,cap-i,?_,?_⟩,hHeld.below⟩
   ·rw [← q1,qm,qt];simp;omega
   ·intro W hW;rw [← q1];exact Or.inr ⟨g,_,rfl,by have:=(OwnO.opsAt hW).part i (j-i);rwa [q9] at this⟩
theorem Ql {P:Program} {o:Oper} {a:Act} {w:World} {K:Act→World→Prop} {Q:Exit→Act→World→Prop} (s x:Operand) (t:TypeId) (ho:o.op=.call { callee:=.builtin .append,args:=#[s,x],argTypes:=#[t,t] })
  (base:Nat) (e:TypeId) (i:TypeInfo) (z:Value) (size bytes:Nat) (ht:P.underlying t=some (.slice e)) (hi:P.info? e=some i) (hz:i.zero=some z) (hsize:i.size=size) (hby:i.bytes=bytes) (hzs:z.cells.size=size) (hsz:0<size)
  (v:Value) (n:Nat) (xs:List Value) (hs:a.eval s=v) (hown:w.ownsRow base e size v n xs) (ad:Addr) (m c:Nat) (news:List Value) (hx:a.eval x=.slice (some ad) m c) (hl:news.length=m*size) (hnews:∀ j u,news[j]?=some u→w.cell? (ad.add j)=some u) (h1:∀ u∈news,u.oneCell'=true)
  (h63:n+m≤maxLen) (hbytes:(n+m)*bytes≤140737488355328) (hbase:base≤w.heap.size)
  (h:∀ v' w',w'.ownsRow base e size v' (n+m) (xs++news)→w.grownBy w' v.ownBlock→(v'.ownBlock=v.ownBlock∨v'.ownBlock=some w.heap.size)→K (a.put o.dst v') w'):o.wp P a w K Q:=by
 obtain ⟨v',w',hrun,r1,r2,-,r3⟩:=run_append_own_at (P:=P) w base t o.type e i z size bytes ht hi hz hsize hby hzs hsz v n xs hown ad m c news hl hnews h1 h63 hbytes hbase;unfold Oper.wp;simp [execOp,ho,resolve,invoke,builtin,hs,hx,hrun,Result.andThen];exact h v' w' r1 r2 r3
def tellL:Nat→List Opn→List Int→Int→List Opn
 | 0,_,_,_=>[]
 | n+1,ins,gone,ref=>(hangs ins ref).flatMap fun o=>(if gone.contains o.key then [] else [o])++tellL n ins gone o.key
structure Tel (w0 W:World) (tb:Nat) (vI vG vT:Value) (ins:List Opn) (gone:List Int) (out:List Opn):Prop where
 below:Bel w0 W
 lo:w0.heap.size≤tb
 hI:OwnO W w0.heap.size vI ins
 hG:OwnU W w0.heap.size vG gone
 row:RowIs W tb 306 3 (tel3 vI vG vT)
 hT:OwnO W w0.heap.size vT out
 apart:∀ g,vI.ownBlock=some g→vT.ownBlock≠some g
theorem xk {w:World} (h:OwnO w B v os) (hb:Bel w w'):OwnO w' B v os:=kp h fun g hg=>hb.block g (qf h g hg).2
theorem ownU_keep {w:World} {us:List Int} (h:OwnU w B v us) (hb:Bel w w'):OwnU w' B v us:=kp h fun g hg=>hb.block g (h.lt g hg).2
theorem Tel.kept {W:World} {ins:List Opn} {gone:List Int} {out:List Opn} (h:Tel w0 W tb vI vG vT ins gone out) (hb:Bel W W2):Tel w0 W2 tb vI vG vT ins gone out:=
 ⟨h.below.trans (hb.mono h.below.size),h.lo,xk h.hI hb,ownU_keep h.hG hb,h.row.below hb h.row.lt,xk h.hT hb,h.apart⟩
theorem Tel.drew {W:World} {ins:List Opn} {gone:List Int} {out:List Opn} (h:Tel w0 W tb vI vG vT ins gone out):Tel w0 W.drew tb vI vG vT ins gone out:=h.kept (qj _ _).drew
structure TelM (w0 W:World) (tb box:Nat) (vI vG vT:Value) (ins:List Opn) (gone:List Int) (o:Opn):Prop where
 below:Bel w0 W
 hI:OwnO W w0.heap.size vI ins
 hG:OwnU W w0.heap.size vG gone
 row:RowIs W tb 306 3 (tel3 vI vG vT)
 box:RowIs W box 43 6 (opV o)
theorem TelM.cells {W:World} {ins:List Opn} {gone:List Int} (h:TelM w0 W tb box vI vG vT ins gone o):W.cell? (Ad box 0)=some (I6 o.kd)∧W.cell? (Ad box 1)=some (U3 o.cl)∧W.cell? (Ad box 2)=some (U3 o.ck)∧W.cell? (Ad box 3)=some (U3 o.st)∧W.cell? (Ad box 4)=some (U6 o.rf)∧W.cell? (Ad box 5)=some (I3 o.ch):=
 ⟨h.box.cell (j:=0) (by omega),h.box.cell (j:=1) (by omega),h.box.cell (j:=2) (by omega),h.box.cell (j:=3) (by omega),h.box.cell (j:=4) (by omega),h.box.cell (j:=5) (by omega)⟩
theorem vq {W:World} (h:RowIs W box 43 6 (opV o)):W.cell? (Ad box 0)=some (I6 o.kd)∧W.cell? (Ad box 1)=some (U3 o.cl)∧W.cell? (Ad box 2)=some (U3 o.ck)∧W.cell? (Ad box 3)=some (U3 o.st)∧W.cell? (Ad box 4)=some (U6 o.rf)∧W.cell? (Ad box 5)=some (I3 o.ch):=
 ⟨h.cell (j:=0) (by omega),h.cell (j:=1) (by omega),h.cell (j:=2) (by omega),h.cell (j:=3) (by omega),h.cell (j:=4) (by omega),h.cell (j:=5) (by omega)⟩
theorem km {p:Prop} (h:p):Hid p:=h
theorem own0 {w:World} {e size:Nat} {xs:List Value} (h:w.ownsRow B e size v n xs):w.ownsRow 0 e size v n xs:=h.mono (qs _)
theorem Tel.grown {W:World} {ins:List Opn} {gone:List Int} {out:List Opn} {A:Obj} (h:Tel w0 W tb vI vG vT ins gone out) (hb:RowIs W box 43 6 (opV o)) (hbx:∀ g,vT.ownBlock=some g→g≠box) (hg:(W.alloc A).grownBy w' vT.ownBlock):TelM w0 w' tb box vI vG vT ins gone o:=by
 have hz:(W.alloc A).heap.size=W.heap.size+1:=by simp
 have k1:∀ b,b<W.heap.size→some b≠vT.ownBlock→w'.heap[b]?=W.heap[b]?:=fun b hb h1=>(hg.block b (by omega) h1).trans (xw hb);refine ⟨⟨hg.os.trans h.below.os,hg.tape.trans h.below.tape,hg.output.trans h.below.output,by have:=hg.size;have:=h.below.size;omega,fun b hb=>?_⟩,kp h.hI fun g hg'=>k1 g (h.hI.lt g hg').2 fun e=>h.apart g hg' e.symm,kp h.hG fun g hg'=>k1 g (h.hG.lt g hg').2 fun e=>own_apart (own0 h.hG) (own0 h.hT) (by decide) hg' e.symm,?_,?_⟩
 ·rw [k1 b (by have:=h.below.size;omega) fun e=>by have:=(h.hT.lt b e.symm).1;omega];exact h.below.block b hb
 ·exact (k1 tb h.row.lt fun e=>xf (own0 h.hT) h.row (by decide) e.symm rfl).trans h.row
 ·exact (k1 box hb.lt fun e=>hbx box e.symm rfl).trans hb
theorem Tel.app {W:World} {v':Value} {ins:List Opn} {gone:List Int} {out:List Opn} {A:Obj} (h:Tel w0 W tb vI vG vT ins gone out) (hm:TelM w0 w' tb box vI vG vT ins gone o) (ho:w'.ownsRow w0.heap.size 43 6 v' (out.length+1) (opCs out++[I6 o.kd,U3 o.cl,U3 o.ck,U3 o.st,U6 o.rf,I3 o.ch])) (hl:v'.ownBlock=vT.ownBlock∨v'.ownBlock=some (W.alloc A).heap.size):Tel w0 (w'.setCell (Ad tb 2) v') tb vI vG v' ins gone (out++[o]):=by
 have hO:OwnO w' w0.heap.size v' (out++[o]):=by
  unfold OwnO;rw [qe,opCs_app];exact ho
 have k2:∀ b,b≠tb→(w'.setCell (Ad tb 2) v').heap[b]?=w'.heap[b]?:=fun b hb=>heap_setCell_other _ _ _ _ hb;refine ⟨hm.below.setCell (p:=(Ad tb 2)) h.lo _,h.lo,kp hm.hI fun g hg=>k2 g fun e=>xf (own0 hm.hI) hm.row (by decide) hg e,kp hm.hG fun g hg=>k2 g fun e=>xf (own0 hm.hG) hm.row (by decide) hg e,?_,kp hO fun g hg=>k2 g fun e=>xf (own0 hO) hm.row (by decide) hg e,?_⟩
 ·refine (hm.row.set 2 v').congr fun j hj=>?_
  match j,hj with
  | 0,_=>rfl
  | 1,_=>rfl
  | 2,_=>rfl
 ·intro g hg;rcases hl with e|e
  ·rw [e];exact h.apart g hg
  ·rw [e];intro e2;cases e2;have:=(h.hI.lt _ hg).2;simp at this;omega
theorem flat_take {α β:Type} (f:α→List β) (l:List α) (h:i<l.length):(l.take (i+1)).flatMap f=(l.take i).flatMap f++f l[i]:=by
 rw [zk h,List.flatMap_append];simp
theorem flat_le {α β:Type} (f:α→List β) (l:List α) (i:Nat):((l.take i).flatMap f).length≤(l.flatMap f).length:=by
 conv=>rhs;rw [← jh i l]
 rw [List.flatMap_append,qe];omega
theorem infoOpB:(Tryz.prog.info? 43).map (fun i=>(i.zero,i.size,i.bytes))=some (some (.agg oZ),6,40):=by kernel_rfl
theorem tell_any (vI vG:Value) (tb:Nat) (ins:List Opn) (gone:List Int) (w0:World) (hn:ins.length<4611686018427387904) (hgl:gone.length<4611686018427387904) (hs:ByRf ins) (hgs:gone.Pairwise (·≤·)) (hT:∀ o∈ins,(0≤o.cl∧o.cl<4294967296)∧(0≤o.ck∧o.ck<4294967296)) (hK:∀ o∈ins,o.key<1152921504606846976)
  (M:Int) (hM:∀ o∈ins,o.st<M) (hU:∀ x∈ins,∀ y∈ins,x.rf=y.key→y.st<x.st) :
  ∀ (n:Nat) (ref:Int) (out:List Opn) (vT:Value) (w:World),0≤ref→ref<1152921504606846976→(∀ x∈ins,x.rf=ref→M≤x.st+n)→out.length+(tellL n ins gone ref).length≤1000000→Tel w0 w tb vI vG vT ins gone out →
  Cs 221 #[(pt tb 0),U6 ref] w fun e w'=>e=.returned (.tuple #[])∧∃ vT',Tel w0 w' tb vI vG vT' ins gone (out++tellL n ins gone ref):=by
 intro n
 induction n with
 | zero=>
  intro ref out vT w h0 h1 hf hl H
  have e0:hangs ins ref=[]:=by
   unfold hangs;rw [List.filter_eq_nil_iff];intro o ho hr;have:=hf o ho (of_decide_eq_true hr);have:=hM o ho;omega
  have HH:Hid (Calls _ _ _ _ _):=hanging_any tb w0.heap.size vI vG vT ins ref w H.row H.hI hn hs ⟨h0,by omega⟩;rw [e0] at HH;have H0:Hid (Tel w0 w tb vI vG vT ins gone out):=H;clear H hf hl e0;go_enter Tryz.func221,Tryz.ntmps221;go_wp2_with (go_at_call 271;refine HH.out.mono ?_;rintro e w1 ⟨⟨a,c,rfl,-⟩,hb1⟩;have H1:Hid (Tel w0 w1 tb vI vG vT ins gone out):=H0.out.kept hb1);go_loopw [13] (fun iv wr=>iv=I6 0∧wr=w1) (fun _ _=>0)
  case atStart=>exact ⟨rfl,rfl⟩
  case round=>
   obtain ⟨rfl,rfl⟩:=hrel;go_wp2;go_end0;exact ⟨rfl,vT,by rw [tellL,jd];exact H1.out⟩
 | succ n ih=>
  intro ref out vT w h0 h1 hf hl H;have HH:Hid (Calls _ _ _ _ _):=hanging_any tb w0.heap.size vI vG vT ins ref w H.row H.hI hn hs ⟨h0,by omega⟩;have H0:Hid (Tel w0 w tb vI vG vT ins gone out):=H;obtain ⟨F,hF⟩:∃ F:Opn→List Opn,F=fun o=>(if gone.contains o.key then [] else [o])++tellL n ins gone o.key:=⟨_,rfl⟩;have hE:tellL (n+1) ins gone ref=(hangs ins ref).flatMap F:=by rw [hF];rfl
  rw [hE] at hl ⊢
  have hm:∀ o∈hangs ins ref,o∈ins∧o.rf=ref:=fun o ho=>by
   unfold hangs at ho;rw [qo] at ho;exact ⟨ho.1,of_decide_eq_true ho.2⟩
  have hLs:(hangs ins ref).length<4611686018427387904:=by have:=zz (fun o=>decide (o.rf=ref)) ins;unfold hangs;omega
  generalize hangs ins ref=hs' at *;have HL:Hid (out.length+(hs'.flatMap F).length≤1000000):=hl;have HF:Hid (F=fun o=>(if gone.contains o.key then [] else [o])++tellL n ins gone o.key):=hF;have Hm:Hid (∀ o∈hs',o∈ins∧o.rf=ref):=hm;have Hf:Hid (∀ x∈ins,x.rf=ref→M≤x.st+(n+1:Nat)):=hf;have Hih:Hid (∀ (ref:Int) (out:List Opn) (vT:Value) (w:World),0≤ref→ref<1152921504606846976→(∀ x∈ins,x.rf=ref→M≤x.st+n)→out.length+(tellL n ins gone ref).length≤1000000→Tel w0 w tb vI vG vT ins gone out→Cs 221 #[(pt tb 0),U6 ref] w fun e w'=>e=.returned (.tuple #[])∧∃ vT',Tel w0 w' tb vI vG vT' ins gone (out++tellL n ins gone ref)):=ih;have HT:Hid (∀ o∈ins,((0≤o.cl∧o.cl<4294967296)∧(0≤o.ck∧o.ck<4294967296))∧o.key<1152921504606846976):=fun o ho=>⟨hT o ho,hK o ho⟩;have HU:Hid (∀ x∈ins,∀ y∈ins,x.rf=y.key→y.st<x.st):=hU;have HG:Hid (gone.length<4611686018427387904∧gone.Pairwise (·≤·)):=⟨hgl,hgs⟩;obtain ⟨io,oi,oz0,oz1,oz2⟩:=info_parts infoOpB;clear H hf hl hF hm hE ih hT hK hU hgl hgs hn hs hM;go_enter Tryz.func221,Tryz.ntmps221;go_wp2_with (go_at_call 271;refine HH.out.mono ?_;rintro e w1 ⟨⟨a,c,rfl,hA⟩,hb1⟩;have H1:Hid (Tel w0 w1 tb vI vG vT ins gone out):=H0.out.kept hb1;have HA:Hid (∀ W,OwnO W w0.heap.size vI ins→OpsIs W a hs'):=hA;clear hA);go_loopw [13] (fun iv wr=>∃ (i:Nat) (vT:Value),iv=I6 i∧i≤hs'.length∧Hid (Tel w0 wr tb vI vG vT ins gone (out++(hs'.take i).flatMap F))) (fun iv _=>hs'.length-(intOf iv).toNat)
  case atStart=>exact ⟨0,vT,rfl,qs _,by rw [List.take_zero,List.flatMap_nil,jd];exact H1⟩
  case round=>
   clear H0 H1 hb1 HH;obtain ⟨i,vT,rfl,hi,H2⟩:=hrel;by_cases hlt:i<hs'.length
   ·have li:(i:Int)<(hs'.length:Int):=by omega
    rcases HA.out wr H2.out.hI with rfl|⟨ga,off,rfl,hO⟩
    ·cases hlt
    obtain ⟨c0,c1,c2,c3,c4,c5⟩:=hO.cells hlt;have hmi:=Hm.out hs'[i] (qn hlt);have hTi:=HT.out _ hmi.1
    have hUi:∀ x∈ins,x.rf=hs'[i].key→M≤x.st+n:=fun x hx hr=>by
     have q1:=HU.out x hx _ hmi.1 hr;have q2:=Hf.out _ hmi.1 hmi.2;omega
    have hFi:=flat_take F hs' hlt
    have hLi:out.length+((hs'.take (i+1)).flatMap F).length≤1000000:=by
     have:=flat_le F hs' (i+1);have:=HL.out;omega
    rw [hFi,qe] at hLi;rw [show F hs'[i]=_ from congrFun HF.out hs'[i]] at hFi hLi;generalize hs'[i]=o at *;generalize (hs'.take i).flatMap F=pre at *;have hK0:0≤o.key:=by have:=hTi.1;show 0≤o.cl*1048576+o.ck;omega
    obtain ⟨aG,cG,rfl⟩:∃ aG cG,vG=.slice aG gone.length cG:=by
     rcases H2.out.hG.2 with ⟨e,h0⟩|⟨g,cap,cur,e,_⟩
     ·exact ⟨none,0,by rw [h0];exact e⟩
     ·exact ⟨_,_,e⟩
    have HX:Hid (Tel w0 (wr.alloc (.cells (oC o) 43)) tb vI (.slice aG gone.length cG) vT ins gone (out++pre)∧RowIs (wr.alloc (.cells (oC o) 43)) wr.heap.size 43 6 (opV o)∧∀ g,vT.ownBlock=some g→g≠wr.heap.size):=⟨H2.out.kept (kq _ _),RowIs.last rfl rfl,fun g hg e=>by have:=(H2.out.hT.lt g hg).2;omega⟩;have Hi:Hid (pre.length=pre.length):=rfl;have HUi:Hid (∀ x∈ins,x.rf=o.key→M≤x.st+n):=hUi;have HFi:Hid ((hs'.take (i+1)).flatMap F=pre++((if gone.contains o.key then [] else [o])++tellL n ins gone o.key)):=hFi;have HLi:Hid (out.length+(pre.length+((if gone.contains o.key then [] else [o])++tellL n ins gone o.key).length)≤1000000):=hLi;have HTi:Hid (((0≤o.cl∧o.cl<4294967296)∧(0≤o.ck∧o.ck<4294967296))∧o.key<1152921504606846976∧0≤o.key):=⟨hTi.1,hTi.2,hK0⟩;have HB:Hid (∀ W,OwnU W w0.heap.size (.slice aG gone.length cG) gone→Cs 272 #[.slice aG gone.length cG,U6 o.key] W fun e w'=>(∃ i:Nat,e=.returned (.tuple #[I6 i,.bool (gone.contains o.key)]))∧Bel W w'):=fun W hW=>bsu_any o.key aG cG gone W hW.at HG.out.1 HG.out.2;clear hUi hFi hLi hmi hO hTi hK0 H2;cases hc:gone.contains o.key
    ·rw [hc] at HB HFi HLi
     go_wp2_with (first
      | (go_at_call 93;refine (kz _ _ _ _ _ _ HTi.out.1.1 HTi.out.1.2 _).mono ?_;rintro e w2 ⟨rfl,hb2⟩;have HY:Hid (Tel w0 w2 tb vI (.slice aG gone.length cG) vT ins gone (out++pre)∧RowIs w2 wr.heap.size 43 6 (opV o)):=⟨HX.out.1.kept hb2,HX.out.2.1.below hb2 HX.out.2.1.lt⟩;have g1:w2.cell? (Ad tb 1)=some (.slice aG gone.length cG):=HY.out.1.row.cell (j:=1) (by omega))
      | (go_at_call 272;refine (HB.out _ HY.out.1.hG).mono ?_;rintro e w3 ⟨⟨i3,rfl⟩,hb3⟩;have HZ:Hid (Tel w0 w3 tb vI (.slice aG gone.length cG) vT ins gone (out++pre)∧RowIs w3 wr.heap.size 43 6 (opV o)):=⟨HY.out.1.kept hb3,HY.out.2.below hb3 HY.out.2.lt⟩))
     have HD:Hid (Tel w0 w3.drew tb vI (.slice aG gone.length cG) vT ins gone (out++pre)∧RowIs w3.drew wr.heap.size 43 6 (opV o)):=⟨HZ.out.1.drew,HZ.out.2.drew⟩;refine wp_region_held_drew (S:=fun W=>RowIs W wr.heap.size 43 6 (opV o)) (by kernel_rfl) HD.out.2 (fun hHeld=>?_);generalize World.drew _=wD at hHeld HD ⊢;clear HZ HY;refine ks 0 30 ?_;refine ks 1 31 ?_;refine ks 2 32 ?_;refine ks 3 33 ?_;refine x9 5 35 (fun _ h=>vq h) ?_;refine rd2 4 (some 34) 6 (some 36) rfl rfl (fun K hK=>?_) (fun K hK=>?_)
     ·have q2:(wD).cell? (Ad tb 2)=some vT:=HD.out.1.row.cell (j:=2) (by omega);go_simp;clear q2;refine hK.out _ _ hHeld fun hHeld=>?_;clear hK K;refine rd 6 (some 36) rfl (fun K hK=>?_);go_simp;refine hK.out _ _ (hHeld.alloc _) (fun hHeld=>?_);clear hK K;refine rd 7 (some 37) rfl (fun K hK=>?_);rw [if_pos (by rfl)];refine Ql (.tmp 34) (.tmp 36) 32 rfl w0.heap.size 43 io _ 6 40 Tryz.underlying32 oi oz0 oz1 oz2 rfl (by decide) vT (out++pre).length (opCs (out++pre)) rfl (zg HD.out.1.hT _) (Ad wD.heap.size 0) 1 1 [I6 o.kd,U3 o.cl,U3 o.ck,U3 o.st,U6 o.rf,I3 o.ch] rfl rfl (World.news_of_block (heap_alloc_new wD _)) (by simp [Value.oneCell']) (by have:=HLi.out;rw [qe];unfold maxLen;omega) (by have:=HLi.out;rw [qe];omega) (by have:=HD.out.1.below.size;simp;omega) ?_;intro v4 w4 ho4 hg4 hl4;have hM4:=HD.out.1.grown HD.out.2 HX.out.2.2 hg4;have hA4:=HD.out.1.app hM4 ho4 hl4;have t2:w4.cell? (Ad tb 2)=some vT:=hM4.row.cell (j:=2) (by omega);have f2:w4.frozen? (Ad tb 2)=false:=hM4.row.free 2;obtain ⟨a4,c4',rfl,-⟩:=xt (own0 ho4);have HS4:Hid (RowIs (w4.setCell (Ad tb 2) (.slice a4 (out.length+pre.length+1) c4')) wr.heap.size 43 6 (opV o)):=hM4.box.setOther (a:=(Ad tb 2)) (fun e=>absurd (RowIs.type_eq hM4.row ((show tb=wr.heap.size from e)▸hM4.box)) (by decide)) _;rw [qe] at hA4;have HA4:Hid (Tel w0 (w4.setCell (Ad tb 2) (.slice a4 (out.length+pre.length+1) c4')) tb vI (.slice aG gone.length cG) (.slice a4 (out.length+pre.length+1) c4') ins gone (out++pre++[o])):=hA4;refine hK.out _ _ hM4.box (fun hHeld=>?_);clear hK K hA4 hM4 ho4 hg4 hl4;refine ks 8 38 ?_;refine ks 9 39 ?_;refine rd 10 none rfl (fun K hK=>?_);go_simp;refine hK.out _ _ HS4.out (fun hHeld=>?_);clear hK K t2 f2;refine xy ?_;clear HS4 hHeld HD HX;generalize World.setCell w4 _ _=w5 at HA4 ⊢;go_wp2_with (go_at_call 221;refine (Hih.out o.key (out++pre++[o]) _ w5 HTi.out.2.2 HTi.out.2.1 HUi.out (by have:=HLi.out;simp at this ⊢;omega) HA4.out).mono ?_;rintro e w6 ⟨rfl,vT6,h6⟩;have H6:Hid (Tel w0 w6 tb vI (.slice aG gone.length cG) vT6 ins gone (out++pre++[o]++tellL n ins gone o.key)):=h6;clear h6);go_roundw
      case rel=>exact ⟨i+1,vT6,by go_num,hlt,km (by rw [HFi.out];have:=H6.out;simpa using this)⟩
      case measure=>simp [intOf];omega
     ·go_simp;refine hK.out _ _ (hHeld.alloc _) (fun hHeld=>?_);clear hK K;refine rd 4 (some 34) rfl (fun K hK=>?_);have q2:((wD.alloc (.cells (oC o) 43))).cell? (Ad tb 2)=some vT:=(HD.out.1.kept (kq _ _)).row.cell (j:=2) (by omega);go_simp;clear q2;refine hK.out _ _ hHeld fun hHeld=>?_;clear hK K;refine rd 7 (some 37) rfl (fun K hK=>?_);rw [if_pos (by rfl)];refine Ql (.tmp 34) (.tmp 36) 32 rfl w0.heap.size 43 io _ 6 40 Tryz.underlying32 oi oz0 oz1 oz2 rfl (by decide) vT (out++pre).length (opCs (out++pre)) rfl (zg HD.out.1.hT _) (Ad wD.heap.size 0) 1 1 [I6 o.kd,U3 o.cl,U3 o.ck,U3 o.st,U6 o.rf,I3 o.ch] rfl rfl (World.news_of_block (heap_alloc_new wD _)) (by simp [Value.oneCell']) (by have:=HLi.out;rw [qe];unfold maxLen;omega) (by have:=HLi.out;rw [qe];omega) (by have:=HD.out.1.below.size;simp;omega) ?_;intro v4 w4 ho4 hg4 hl4;have hM4:=HD.out.1.grown HD.out.2 HX.out.2.2 hg4;have hA4:=HD.out.1.app hM4 ho4 hl4;have t2:w4.cell? (Ad tb 2)=some vT:=hM4.row.cell (j:=2) (by omega);have f2:w4.frozen? (Ad tb 2)=false:=hM4.row.free 2;obtain ⟨a4,c4',rfl,-⟩:=xt (own0 ho4);have HS4:Hid (RowIs (w4.setCell (Ad tb 2) (.slice a4 (out.length+pre.length+1) c4')) wr.heap.size 43 6 (opV o)):=hM4.box.setOther (a:=(Ad tb 2)) (fun e=>absurd (RowIs.type_eq hM4.row ((show tb=wr.heap.size from e)▸hM4.box)) (by decide)) _;rw [qe] at hA4;have HA4:Hid (Tel w0 (w4.setCell (Ad tb 2) (.slice a4 (out.length+pre.length+1) c4')) tb vI (.slice aG gone.length cG) (.slice a4 (out.length+pre.length+1) c4') ins gone (out++pre++[o])):=hA4;refine hK.out _ _ hM4.box (fun hHeld=>?_);clear hK K hA4 hM4 ho4 hg4 hl4;refine ks 8 38 ?_;refine ks 9 39 ?_;refine rd 10 none rfl (fun K hK=>?_);go_simp;refine hK.out _ _ HS4.out (fun hHeld=>?_);clear hK K t2 f2;refine xy ?_;clear HS4 hHeld HD HX;generalize World.setCell w4 _ _=w5 at HA4 ⊢;go_wp2_with (go_at_call 221;refine (Hih.out o.key (out++pre++[o]) _ w5 HTi.out.2.2 HTi.out.2.1 HUi.out (by have:=HLi.out;simp at this ⊢;omega) HA4.out).mono ?_;rintro e w6 ⟨rfl,vT6,h6⟩;have H6:Hid (Tel w0 w6 tb vI (.slice aG gone.length cG) vT6 ins gone (out++pre++[o]++tellL n ins gone o.key)):=h6;clear h6);go_roundw
      case rel=>exact ⟨i+1,vT6,by go_num,hlt,km (by rw [HFi.out];have:=H6.out;simpa using this)⟩
      case measure=>simp [intOf];omega
    ·rw [hc] at HB HFi HLi
     go_wp2_with (first
      | (go_at_call 93;refine (kz _ _ _ _ _ _ HTi.out.1.1 HTi.out.1.2 _).mono ?_;rintro e w2 ⟨rfl,hb2⟩;have HY:Hid (Tel w0 w2 tb vI (.slice aG gone.length cG) vT ins gone (out++pre)):=HX.out.1.kept hb2;have g1:w2.cell? (Ad tb 1)=some (.slice aG gone.length cG):=HY.out.row.cell (j:=1) (by omega))
      | (go_at_call 272;refine (HB.out _ HY.out.hG).mono ?_;rintro e w3 ⟨⟨i3,rfl⟩,hb3⟩;have HZ:Hid (Tel w0 w3 tb vI (.slice aG gone.length cG) vT ins gone (out++pre)):=HY.out.kept hb3)
      | (go_at_call 221;refine (Hih.out o.key (out++pre) vT w3 HTi.out.2.2 HTi.out.2.1 HUi.out (by have:=HLi.out;rw [qe];simpa [zu] using this) HZ.out).mono ?_;rintro e w4 ⟨rfl,vT4,h4⟩;have H4:Hid (Tel w0 w4 tb vI (.slice aG gone.length cG) vT4 ins gone (out++pre++tellL n ins gone o.key)):=h4;clear h4))
     go_roundw
     case rel=>exact ⟨i+1,vT4,by go_num,hlt,by rw [HFi.out];have:=H4.out;rw [qr] at this;exact this⟩
     case measure=>simp [intOf];omega
   ·have li:¬ (i:Int)<(hs'.length:Int):=by omega
    go_wp2;go_end0;obtain rfl:i=hs'.length:=by omega
    refine ⟨rfl,vT,?_⟩;have:=H2.out;rwa [jw] at this

import Derived.Test.YtgccjefbedpmpaaGreatDoorYBook2
import Derived.Deep.RegionLaw
import Derived.Lib.SliceRun
namespace Go.Proofs.YtgccjefbedpmpaaGreatDoor
open Go.RowKit
set_option maxRecDepth 100000
set_option maxHeartbeats 8000000
variable {B b c cap g i n : Nat} {cl ss : Int} {l os ws : List Opn} {o : Opn} {vK vW : Value} {w' : World} {xs : List Value}
theorem set_take_drop {o:Nat} (v:Value) (vs:List Value) (ho:o<xs.length):(xs.set o v).take (o+1)++vs++(xs.set o v).drop (o+1+vs.length)=xs.take o++(v::vs)++xs.drop (o+(v::vs).length):=by
 have e1:(xs.set o v).take (o+1)=xs.take o++[v]:=by
  rw [List.set_eq_take_append_cons_drop,if_pos ho,List.take_append,qm,jr (yz ho),show o+1-o=1 by omega,ja (by rw [qm];omega)];rfl
 have e2:(xs.set o v).drop (o+1+vs.length)=xs.drop (o+(v::vs).length):=by
  rw [List.drop_set_of_lt (by omega),qp];congr 1;omega
 rw [e1,e2];simp
theorem ve {B g n cap:Nat} {e:TypeId} {size:Nat}:∀ (vs:List Value) (o:Nat) (w:World) (xs:List Value),w.ownsRow B e size (.slice (some (Ad g 0)) n cap) n xs→o+vs.length≤xs.length →
  (w.setCells g o vs).ownsRow B e size (.slice (some (Ad g 0)) n cap) n (xs.take o++vs++xs.drop (o+vs.length))
 | [],o,w,xs,h,hl=>by
  show w.ownsRow _ _ _ _ _ _;simpa using h
 | v::vs,o,w,xs,h,hl=>by
  rw [qp] at hl;have h2:=ve vs (o+1) _ _ (h.stored o v).1 (by rw [ym];omega);rwa [set_take_drop v vs (by omega)] at h2
theorem own_shorter {w:World} {m:Nat} {e:TypeId} {size:Nat} (h:w.ownsRow B e size (.slice (some (Ad g 0)) n cap) n xs) (hm:m≤n):w.ownsRow B e size (.slice (some (Ad g 0)) m cap) m (xs.take (m*size)):=by
 have hml:m*size≤n*size:=Nat.mul_le_mul_right _ hm;rcases h.2 with ⟨e0,_⟩|⟨g',cap',cur,e0,h1,h2,h3,h4,h5,h6⟩
 ·cases e0
 ·cases e0;refine ⟨by rw [qm,h.1];omega,Or.inr ⟨g,cap,cur,rfl,h1,h2,by omega,h4,h5,?_⟩⟩;rw [← h6,yg,jr hml]
theorem opCs_take (os:List Opn) (i:Nat):(opCs os).take (i*6)=opCs (os.take i):=by
 induction os generalizing i with
 | nil=>simp [opCs]
 | cons o os ih=>
  cases i with
  | zero=>simp [opCs]
  | succ i=>rw [show (i+1)*6=i*6+6 by omega];simp [opCs,ih]
theorem opCs_drop (os:List Opn) (i:Nat):(opCs os).drop (i*6)=opCs (os.drop i):=by
 induction os generalizing i with
 | nil=>simp [opCs]
 | cons o os ih=>
  cases i with
  | zero=>simp [opCs]
  | succ i=>rw [show (i+1)*6=i*6+6 by omega];simp [opCs,ih]
theorem vy {X:Nat→Prop} {a:World} {g:Nat} (hg:X g):∀ (vs:List Value) (o:Nat) (b:World),But X a b→But X a (b.setCells g o vs)
 | [],_,_,h=>h
 | v::vs,o,_,h=>vy hg vs (o+1) _ (h.setCell (Or.inl hg) v)
theorem vm {p:Prop} (h:p):Hid p:=h
def zop:List Value:=[I6 0,U3 0,U3 0,U3 0,U6 0,I3 0]
theorem own_deleted {w:World} (h:OwnO w B (.slice (some (Ad g 0)) n cap) os) (hn:os.length=n) (hi:i<n) :
  OwnO ((w.setCells g (i*6) (opCs (os.drop (i+1)))).setCells g ((n-1)*6) zop) B (.slice (some (Ad g 0)) (n-1) cap) (os.eraseIdx i):=by
 unfold OwnO at h ⊢;rw [hn] at h;have hl:=xu os;rw [hn] at hl;have hd:(opCs (os.drop (i+1))).length=(n-(i+1))*6:=by rw [xu,qt,hn]
 have h1:=ve (opCs (os.drop (i+1))) (i*6) w _ h (by rw [hd,hl];omega)
 have h2:=ve zop ((n-1)*6) _ _ h1 (by
  rw [qe,qe,qm,qt,hd,hl];show (n-1)*6+6≤_
  omega)
 have h3:=own_shorter h2 (Nat.sub_le n 1);have e:(os.eraseIdx i).length=n-1:=by rw [List.length_eraseIdx,if_pos (by omega),hn]
 rw [e];have e2:opCs (os.eraseIdx i)=(opCs os).take (i*6)++opCs (os.drop (i+1)):=by rw [yy,opCs_app,opCs_take]
 have e3:((opCs os).take (i*6)++opCs (os.drop (i+1))).length=(n-1)*6:=by rw [qe,qm,hd,hl];omega
 rw [e2]
 have:∀ (X Y Z W:List Value),X.length=(n-1)*6→(List.take ((n-1)*6) (X++Y)++Z++W).take ((n-1)*6)=X:=by
  intro X Y Z W hX;rw [j8 hX,qr,j8 hX]
 rw [this _ _ _ _ e3] at h3;exact h3
theorem zop_cells:(Builtin.zeroCells (Value.agg oZ).cells 1).toList=zop:=by kernel_rfl
theorem run_clear_op (w:World) (ty:TypeId) (g k c:Nat) (hc:∀ j,j<6→(w.cell? ⟨g,k+j,none⟩).isSome=true) (hf:∀ j,j<6→w.frozen? ⟨g,k+j,none⟩=false) :
  (Builtin.clear_ #[32] ty #[.slice (some (Ad g k)) 1 c]).run Tryz.prog w=.ok (.tuple #[]) (w.setCells g k zop):=by
 have hst:=run_storeCells_cells (P:=Tryz.prog) g k zop 0 w (by simpa [zop] using hc) (by simpa [zop] using hf) (by decide);simp only [y8] at hst;simp [Builtin.clear_,run_underlying Tryz.underlying32,Tryz.zeroValue43,zop_cells,hst]
theorem infoAOpZ:(Tryz.prog.info? 43).map (·.size)=some 6:=by kernel_rfl
def DelP (w:World) (B i:Nat) (v:Value) (os:List Opn) (e:Ending) (w':World):Prop:=∃ v',e=.returned v'∧OwnO w' B v' (os.eraseIdx i)∧v'.ownBlock=v.ownBlock∧But (fun b=>v.ownBlock=some b) w w'
theorem del_any (B i j:Nat) (v:Value) (os:List Opn) (w:World) (h:OwnO w B v os) (hi:i<os.length) (hij:j=i+1) :
  Cs 171 #[v,I6 i,I6 j] w fun e w'=>DelP w B i v os e w':=by
 obtain ⟨io,hio⟩:∃ io,Tryz.prog.info? 43=some io:=by
  have:=infoAOpZ
  cases e:Tryz.prog.info? 43 with
  | none=>rw [e] at this;cases this
  | some x=>exact ⟨x,rfl⟩
 have hsz:io.size=6:=by have:=infoAOpZ;rw [hio] at this;simpa using this
 rcases h.2 with ⟨_,e0⟩|⟨g,cap,cur,rfl,h1,h2,h3,h4,h5,h6⟩
 ·omega
 generalize hn:os.length=n at *;have hcap:=h4;unfold maxLen at hcap;obtain ⟨news,hnews⟩:∃ news,news=opCs (os.drop j):=⟨_,rfl⟩;have hlen:news.length=(n-j)*6:=by rw [hnews,xu,qt,hn]
 have hcell:∀ k,k<n*6→w.cell? (Ad g k)=(opCs os)[k]?:=fun k hk=>za (show w.ownsRow B 43 6 (.slice (some (Ad g 0)) n cap) n (opCs os) by have:=h;unfold OwnO at this;rwa [hn] at this) k hk;have hfroz:∀ k,w.frozen? (Ad g k)=false:=fun k=>zq (show w.ownsRow B 43 6 (.slice (some (Ad g 0)) n cap) n (opCs os) by have:=h;unfold OwnO at this;rwa [hn] at this) k;have hol:(opCs os).length=n*6:=by rw [xu,hn]
 obtain ⟨A,hA,hsrc⟩:∃ A:Addr,(if cap=j then some ((Ad g 0):Addr) else some ⟨g,j*6,none⟩)=some A∧Hid (∀ t u,news[t]?=some u→w.drew.cell? (A.add t)=some u):=by
  by_cases hc:cap=j
  ·refine ⟨(Ad g 0),by simp [hc],fun t u hu=>?_⟩;have h0:news.length=0:=by rw [hlen];omega
   rw [zy.1 h0] at hu;simp at hu
  ·refine ⟨⟨g,j*6,none⟩,by simp [hc],fun t u hu=>?_⟩;have ht:=(zn.1 hu).1;rw [hlen] at ht;rw [Addr.add_lit];show w.cell? ⟨g,j*6+t,none⟩=_;rw [hcell _ (by omega),← hu,hnews,← opCs_drop,ju]
 have s1:Hid (news.length=(n-j)*6):=hlen;have s2:Hid (∀ u∈news,u.oneCell'=true):=by rw [hnews];exact opCs_one _
 have s3:Hid (∀ t,t<news.length→(w.drew.cell? ⟨g,0+i*6+t,none⟩).isSome=true∧w.drew.frozen? ⟨g,0+i*6+t,none⟩=false):=by
  intro t ht;rw [hlen] at ht;rw [q9];refine ⟨?_,hfroz _⟩;show (w.cell? _).isSome=true;rw [hcell _ (by omega),qk (by omega)];rfl
 obtain ⟨W1,hW1⟩:∃ W1,W1=w.drew.setCells g (0+i*6) news:=⟨_,rfl⟩;have hW:Hid (W1=w.drew.setCells g (0+i*6) news):=hW1
 have hown1:W1.ownsRow B 43 6 (.slice (some (Ad g 0)) n cap) n ((opCs os).take (0+i*6)++news++(opCs os).drop (0+i*6+news.length)):=by
  rw [hW1];refine ve news (0+i*6) w.drew _ ?_ (by rw [hlen,hol];omega);have:=h;unfold OwnO at this;rw [hn] at this;exact this
 have hcl:∀ ty,(Builtin.clear_ #[32] ty #[.slice (some ⟨g,(i+(n-j))*6,none⟩) (n-(i+(n-j))) (cap-(i+(n-j)))]).run Tryz.prog W1=.ok (.tuple #[]) (W1.setCells g ((n-1)*6) zop):=by
  intro ty;rw [show n-(i+(n-j))=1 by omega,show i+(n-j)=n-1 by omega];refine run_clear_op W1 ty g ((n-1)*6) _ (fun k hk=>?_) (fun k hk=>zq hown1 _);rw [za hown1 _ (by omega),qk (by rw [hown1.1];omega)];rfl
 clear hown1;have hnk:¬ cap=i+(n-j):=by omega
 have hnk2:i+(n-j)≤n:=by omega
 have hnk3:i+(n-j)≤cap:=by omega
 have hic:i≤cap:=by omega
 have hjc:j≤cap:=by omega
 have hij':i≤j:=by omega
 have hjn:j≤n:=by omega
 have hne:¬ i=j:=by omega
 have HH:=vm (qd h (qd hn (qd hnews (qd hij hi))));clear hW1 hcell hfroz hol hlen hnews h h1 h2 h5 h6 h4 hn hij hi;go_enter Tryz.func171,Tryz.ntmps171;go_wp2_with fail;go_region_law (refine step_append_room rfl (.tmp 22) (.tmp 25) 32 rfl 43 io 6 Tryz.underlying32 hio hsz g 0 i cap (by simp [Act.eval,Act.put]) A (n-j) (cap-j) news (by simp [Act.eval,Act.put]) s1.out hsrc.out s2.out (by omega) s3.out ?_;rw [← hW.out]);go_wp2;go_ret;obtain ⟨h,hn,hnews,hij,hi⟩:=HH.out;subst hij;refine ⟨_,rfl,?_,rfl,?_⟩
 ·rw [hW.out,q9,hnews,show i+(n-(i+1))=n-1 by omega];exact own_deleted (w:=w.drew) h hn hi
 ·rw [hW.out];exact vy (X:=fun b=>some g=some b) rfl _ _ _ (vy (X:=fun b=>some g=some b) rfl _ _ _ (But.refl _ _).drew)
theorem Tr.cut_size {k:Int}:∀ {t:Tr},(t.cut k).1.size+(t.cut k).2.size=t.size
 | ⟨none⟩=>rfl
 | ⟨some (o,rk,l,r)⟩=>by
  have h1:=Tr.cut_size (k:=k) (t:=l);have h2:=Tr.cut_size (k:=k) (t:=r);unfold Tr.cut;split<;>simp only [Tr.size]<;>omega
theorem Tr.with_size (o:Opn) (rk:Int):∀ (t:Tr),(t.with o rk).size≤t.size+1
 | ⟨none⟩=>by simp [Tr.with,Tr.size]
 | ⟨some (o',rk',l,r)⟩=>by
  have h1:=Tr.with_size o rk l;have h2:=Tr.with_size o rk r;have h3:=Tr.cut_size (k:=o.key) (t:=.node o' rk' l r)
  unfold Tr.with
  split
  ·simp only [Tr.size] at h3 ⊢;omega
  ·split
   ·simp only [Tr.size];omega
   ·split<;>simp only [Tr.size]<;>omega
theorem Tr.with_T {o:Opn} (rk:Int) (ho:KeyT o):∀ {t:Tr},t.T→(t.with o rk).T
 | ⟨none⟩,_=>⟨ho,trivial,trivial⟩
 | ⟨some (o',rk',l,r)⟩,h=>by
  have h1:=Tr.with_T rk ho h.2.1;have h2:=Tr.with_T rk ho h.2.2;have h3:=Tr.cut_T (k:=o.key) h
  unfold Tr.with
  split
  ·exact ⟨ho,h3.1,h3.2⟩
  ·split
   ·exact ⟨h.1,h1,h.2.2⟩
   ·split
    ·exact ⟨h.1,h.2.1,h2⟩
    ·exact ⟨ho,h.2.1,h.2.2⟩
def takeL:Nat→Tr→List Opn→Tr×List Opn
 | 0,t,ws=>(t,ws)
 | f+1,t,ws=>if 120≤t.size then (t,ws) else match ws.findIdx? (rdy t) with
  | none=>(t,ws)
  | some i=>takeL f (t.with (getO ws[i]?) (rkOf (getO ws[i]?).key)) (ws.eraseIdx i)
structure BookIs (w:World) (b:Nat) (st cl ss:Int) (top vW vK:Value) (t:Tr) (ws:List Opn):Prop where
 row:RowIs w b 118 7 (rep7 st cl top vW ss vK)
 tree:IsTr w top t
 own:OwnO w 0 vW ws
 typ:t.T
 wtyp:∀ o∈ws,KeyT o
 wlen:ws.length<1000000
 size:t.size≤100000
 env:Env w
 far:15≤b
 wfar:∀ g,vW.ownBlock=some g→15≤g
theorem rep_wait {w:World} {st:Int} {top:Value} (h:RowIs w b 118 7 (rep7 st cl top vW ss vK)) (v:Value):RowIs (w.setCell (Ad b 4) v) b 118 7 (rep7 st cl top v ss vK):=(h.set 4 v).congr fun j _=>by
 match j with
 | 0=>rfl
 | 1=>rfl
 | 2=>rfl
 | 3=>rfl
 | 4=>rfl
 | 5=>rfl
 | _+6=>rfl
theorem isTr_butO {w w':World} {v0:Value} {os:List Opn} (ho:OwnO w 0 v0 os) (hb:But (fun x=>v0.ownBlock=some x) w w'):∀ {t:Tr} {v:Value},IsTr w v t→IsTr w' v t
 | ⟨none⟩,_,h=>h
 | ⟨some (_,_,_,_)⟩,_,⟨c,vl,vr,e,hc,h1,h2⟩=>⟨c,vl,vr,e,(hb.block c hc.lt fun e=>xf ho hc (by decide) e rfl).trans hc,isTr_butO ho hb h1,isTr_butO ho hb h2⟩
theorem BookIs.apart {w:World} {st:Int} {top:Value} {t:Tr} (h:BookIs w b st cl ss top vW vK t ws) (hg:vW.ownBlock=some g):g≠b:=xf h.own h.row (by decide) hg
theorem BookIs.below {w:World} {st:Int} {top:Value} {t:Tr} (h:BookIs w b st cl ss top vW vK t ws) (hb:Bel w w'):BookIs w' b st cl ss top vW vK t ws:=
 ⟨h.row.below hb h.row.lt,h.tree.below hb,xk h.own hb,h.typ,h.wtyp,h.wlen,h.size,h.env.below hb,h.far,h.wfar⟩
theorem BookIs.top {w:World} {st:Int} {top:Value} {t t2:Tr} (h:BookIs w b st cl ss top vW vK t ws) {v2:Value} (h2:IsTr w v2 t2) (hT:t2.T) (hs:t2.size≤100000):BookIs (w.setCell (Ad b 3) v2) b st cl ss v2 vW vK t2 ws:=
 ⟨rep_top h.row _,Qf h.row (by decide) (But.set b 3 _) h2,kp h.own fun g hg=>heap_setCell_other _ _ _ _ (fun e=>h.apart hg e),hT,h.wtyp,h.wlen,hs,h.env.but (But.set b 3 _) (fun x e=>e▸h.far) (by have:=h.row.lt;have:=h.far;omega),h.far,h.wfar⟩
theorem BookIs.gone {w:World} {st:Int} {top:Value} {t:Tr} (h:BookIs w b st cl ss top vW vK t ws) {v':Value} (ho:OwnO w' 0 v' (ws.eraseIdx i)) (hv:v'.ownBlock=vW.ownBlock) (hb:But (fun x=>vW.ownBlock=some x) w w'):BookIs (w'.setCell (Ad b 4) v') b st cl ss top v' vK t (ws.eraseIdx i):=by
 have hrow:RowIs w' b 118 7 (rep7 st cl top vW ss vK):=h.row.but hb (fun e=>h.apart e rfl);have hg:15≤w.heap.size:=by have:=h.row.lt;have:=h.far;omega
 have he:Env w':=h.env.but hb (fun x e=>h.wfar x e) hg;exact ⟨rep_wait hrow _,Qf hrow (by decide) (But.set b 4 _) (isTr_butO h.own hb h.tree),kp ho fun g hg=>heap_setCell_other _ _ _ _ (fun e=>h.apart (hv▸hg) e),h.typ,fun o hm=>h.wtyp o (jy hm),Nat.lt_of_le_of_lt (List.length_eraseIdx_le _ _) h.wlen,h.size,he.but (But.set b 4 _) (fun x e=>e▸h.far) (qi hg hb.size),h.far,fun g hg=>h.wfar g (hv▸hg)⟩
theorem kt {w:World} {v:Value} (h:OwnO w B v os):∃ a c,v=.slice a os.length c:=by
 rcases h.2 with ⟨e,h0⟩|⟨g,cap,cur,e,_⟩
 ·exact ⟨_,_,by rw [e,h0]⟩
 ·exact ⟨_,_,e⟩
structure TakeS (b g n c:Nat) (ws:List Opn) (W:World):Prop where
 lt:b<W.heap.size
 ne:g≠b
 wait:W.cell? (Ad b 4)=some (.slice (some (Ad g 0)) n c)
 ops:OpsAt W g 0 ws
theorem TakeS.below {W W':World} (h:TakeS b g n c ws W) (hb:Bel W W'):TakeS b g n c ws W':=⟨ql h.lt hb.size,h.ne,(hb.cell h.lt).trans h.wait,h.ops.below hb⟩
theorem TakeS.set3 {W:World} (h:TakeS b g n c ws W) (v:Value):TakeS b g n c ws (W.setCell (Ad b 3) v):=
 ⟨by simpa [World.setCell] using h.lt,h.ne,(World.cell?_setCell_other _ _ _ _ (by intro e;simp only [Addr.mk.injEq] at e;omega)).trans h.wait,fun i hi j hj=>(World.cell?_setCell_other _ _ _ _ (by intro e;simp only [Addr.mk.injEq] at e;have:=h.ne;omega)).trans (h.ops i hi j hj)⟩
theorem TakeS.cells {W:World} (h:TakeS b g n c ws W) (hi:i<ws.length) (ho:ws[i]?=some o):W.cell? ⟨g,i*6,none⟩=some (I6 o.kd)∧W.cell? ⟨g,i*6+1,none⟩=some (U3 o.cl)∧W.cell? ⟨g,i*6+2,none⟩=some (U3 o.ck)∧W.cell? ⟨g,i*6+3,none⟩=some (U3 o.st)∧W.cell? ⟨g,i*6+4,none⟩=some (U6 o.rf)∧W.cell? ⟨g,i*6+5,none⟩=some (I3 o.ch):=by
 have e:ws[i]=o:=by rw [qk hi] at ho;exact qq ho
 have k:=fun j hj=>h.ops i hi j hj;simp only [e,q9] at k;exact ⟨k 0 (by omega),k 1 (by omega),k 2 (by omega),k 3 (by omega),k 4 (by omega),k 5 (by omega)⟩
theorem takeL_full {t:Tr} (h:120≤t.size):takeL n t ws=(t,ws):=by
 cases n with
 | zero=>rfl
 | succ n=>rw [takeL,if_pos h]
theorem takeL_none {t:Tr} (h:ws.findIdx? (rdy t)=none):takeL n t ws=(t,ws):=by
 cases n with
 | zero=>rfl
 | succ n=>rw [takeL,h];split<;>rfl
theorem takeL_some {t:Tr} (hf:¬ 120≤t.size) (h:ws.findIdx? (rdy t)=some i) (ho:ws[i]?=some o):takeL (n+1) t ws=takeL n (t.with o (rkOf o.key)) (ws.eraseIdx i):=by
 rw [takeL,if_neg hf,h];simp only [ho,getO]
def TakeP (b:Nat) (st cl ss:Int) (vK vW:Value) (R:Tr×List Opn) (w w':World):Prop:=∃ top v',BookIs w' b st cl ss top v' vK R.1 R.2∧v'.ownBlock=vW.ownBlock∧But (fun x=>x=b∨vW.ownBlock=some x) w w'
theorem take_any (b:Nat) (st cl ss:Int) (top vW vK:Value) (t:Tr) (ws:List Opn) (o:Opn) (w:World) (H:BookIs w b st cl ss top vW vK t ws) (ho:KeyT o) (hs:t.size<100000) :
  Cs 98 #[(pt b 2),.agg (oC o)] w fun e w'=>e=.returned (.tuple #[])∧TakeP b st cl ss vK vW (takeL ws.length (t.with o (rkOf o.key)) ws) w w':=by
 have HBk:=vm H;have h:=H.row;have hI:=H.tree;have ht:=H.typ;have hE:=H.env;obtain ⟨p0,rfl⟩:=hI.ptr;obtain ⟨a0,c0,hvW⟩:=kt H.own;have HV:=vm hvW;have HW:Hid (∀ W,Bel w W→Cs 169 #[.agg #[.pointer p0],.agg (oC o)] W fun e w'=>(∃ p,e=.returned (.agg #[p])∧IsTr w' p (t.with o (rkOf o.key)))∧Bel W w'):=fun W hW=>sWith_any o ho t _ W (hI.below hW) ht (hE.below hW);have hbl:=h.lt;have hbn:b≠w.heap.size:=by omega
 have HT2:Hid ((t.with o (rkOf o.key)).T∧(t.with o (rkOf o.key)).size≤100000):=⟨Tr.with_T _ ho ht,by have:=Tr.with_size o (rkOf o.key) t;omega⟩;generalize t.with o (rkOf o.key)=t2' at *
 generalize hR:takeL ws.length t2' ws=R at *;have HR:=vm hR;have HD0:Hid ((RowIs (w.alloc (.cells (oC o) 43)).drew b 118 7 (rep7 st cl (.pointer p0) vW ss vK)∧Bel w (w.alloc (.cells (oC o) 43)).drew)∧RowIs (w.alloc (.cells (oC o) 43)).drew w.heap.size 43 6 (opV o)):=⟨⟨(h.alloc _).drew,(kq _ _).drew⟩,RowIs.drew (RowIs.last (w:=w) (n:=6) (f:=opV o) (cs:=(oC o)) rfl rfl)⟩;clear h hI ht ho hE hs H hvW hR;go_enter Tryz.func98,Tryz.ntmps98;go_wp2_with fail;refine wp_region_held_drew (S:=fun W=>RowIs W w.heap.size 43 6 (opV o)) (by kernel_rfl) HD0.out.2 (fun hHeld=>?_);generalize World.drew _=wD at hHeld HD0 ⊢;have HD:=HD0.out.1;have HD:Hid (RowIs wD b 118 7 (rep7 st cl (.pointer p0) vW ss vK)∧Bel w wD):=HD;clear HD0;refine ks 0 5 ?_;refine ks 1 6 ?_;refine ks 2 7 ?_;refine ks 3 8 ?_;refine x9 5 10 (fun _ h=>vq h) ?_;refine rd 4 (some 9) rfl (fun K hK=>?_);have q3:wD.cell? (Ad b 3)=some (.pointer p0):=HD.out.1.cell (j:=3) (by omega);go_simp;clear q3;refine hK.out _ _ hHeld fun hHeld=>?_;clear hK K;refine rd 6 (some 11) rfl (fun K hK=>?_);go_simp;refine (HW.out _ HD.out.2).mono ?_;rintro e w2 ⟨⟨p2,rfl,hp2⟩,hb2⟩;obtain ⟨p2,rfl⟩:=hp2.ptr;have R2:=HD.out.1.below hb2 HD.out.1.lt;have t2:w2.cell? (Ad b 3)=some (.pointer p0):=R2.cell (j:=3) (by omega);have f2:w2.frozen? (Ad b 3)=false:=R2.free 3;have H2:Hid (RowIs w2 b 118 7 (rep7 st cl (.pointer p0) vW ss vK)∧IsTr w2 (.pointer p2) t2'∧Bel wD w2):=⟨R2,hp2,hb2⟩;have HB2:=hHeld.below hb2 hHeld.lt;refine hK.out _ _ HB2 (fun hHeld=>?_);clear hK K R2 hp2 hb2 HB2;refine ks 7 12 ?_;refine ks 8 13 ?_;refine rd 9 none rfl (fun K hK=>?_);go_simp;refine hK.out _ _ (hHeld.setOther (a:=(Ad b 3)) (fun e=>hbn e) _) (fun hHeld=>?_);clear hK K t2 f2;refine xy ?_;have H3:Hid (BookIs (w2.setCell (Ad b 3) (.pointer p2)) b st cl ss (.pointer p2) vW vK t2' ws∧But (fun x=>x=b∨vW.ownBlock=some x) w (w2.setCell (Ad b 3) (.pointer p2))):=⟨((HBk.out.below HD.out.2).below H2.out.2.2).top H2.out.2.1 HT2.out.1 HT2.out.2,(((But.below HD.out.2).trans (But.below H2.out.2.2)).trans (But.set b 3 _)).mono fun x e=>Or.inl e⟩;clear H2 HD hHeld HBk HT2 HW;generalize World.setCell w2 _ _=w4 at H3 ⊢;go_wp2_with fail;go_loopg [4] ws.length (fun kx s4 wr=>∃ (p1 a1:Option Addr) (n1 c1:Nat) (t1:Tr) (ws1:List Opn),n1=kx∧ws1.length=n1∧Hid (BookIs wr b st cl ss (.pointer p1) (.slice a1 n1 c1) vK t1 ws1∧(Value.slice a1 n1 c1).ownBlock=vW.ownBlock∧But (fun x=>x=b∨vW.ownBlock=some x) w wr∧takeL n1 t1 ws1=R))
 case atStart=>exact ⟨p2,a0,ws.length,c0,t2',ws,rfl,rfl,vm ⟨HV.out▸H3.out.1,by rw [← HV.out],H3.out.2,HR.out⟩⟩
 case round=>
  obtain ⟨p1,a1,n1,c1,t1,ws1,rfl,hn1,I⟩:=hrel;clear H3 HR HV;have HF:Hid (∀ W,Bel wr W→Cs 97 #[(pt b 2)] W fun e w'=>e=.returned (.bool (decide (120≤t1.size)))∧Bel W w'):=fun W hW=>isFull_any b st cl ss _ _ vK t1 W (I.out.1.row.below hW I.out.1.row.lt) (I.out.1.tree.below hW) (qi I.out.1.size (by decide));have hwl:n1<1000000:=hn1▸I.out.1.wlen
  have HX:Hid (∀ W,Bel wr W→Cs 170 #[.slice a1 n1 c1,.func (.func 96) #[(pt b 2)] #[]] W fun e w'=>e=.returned (I6 (idxI (rdy t1) ws1))∧Bel W w'):=fun W hW=>by
   have I2:=I.out.1.below hW;have:=ixf_any b (rdy t1) a1 c1 ws1 W (OwnO.is I2.own) (by omega) (fun o ho W2 hW2=>isReady_any b st cl ss _ _ vK t1 o W2 ((I2.below hW2).row) (I2.below hW2).tree I2.typ (I2.wtyp o ho));rw [hn1] at this;exact this
  have HL:=vm hn1;clear hn1;by_cases hfu:120≤t1.size
  ·rw [show decide (120≤t1.size)=true from decide_eq_true hfu] at HF;go_wp2_with (go_at_call 97;refine (HF.out _ (qj _ _)).mono ?_;rintro e w5 ⟨rfl,hb5⟩);go_end0;refine ⟨rfl,.pointer p1,.slice a1 n1 c1,?_,I.out.2.1,I.out.2.2.1.trans (But.below hb5)⟩;rw [← I.out.2.2.2,takeL_full hfu];exact I.out.1.below hb5
  ·rw [show decide (120≤t1.size)=false from decide_eq_false hfu] at HF;have HNF:=vm hfu;clear hfu
   cases hfi:ws1.findIdx? (rdy t1) with
   | none=>
    rw [show idxI (rdy t1) ws1=-1 by unfold idxI;rw [hfi]] at HX;have HFI:=vm hfi;clear hfi
    go_wp2_with (first
     | (go_at_call 97;refine (HF.out _ (qj _ _)).mono ?_;rintro e w5 ⟨rfl,hb5⟩;have c4:w5.cell? (Ad b 4)=some (.slice a1 n1 c1):=(I.out.1.below hb5).row.cell (j:=4) (by omega))
     | (go_at_call 170;refine (HX.out _ hb5).mono ?_;rintro e w6 ⟨rfl,hb6⟩))
    refine bodyPost_ret (results_none rfl _ _ _) rfl ?_;have hb:=hb5.trans (hb6.mono hb5.size);refine ⟨rfl,.pointer p1,.slice a1 n1 c1,?_,I.out.2.1,I.out.2.2.1.trans (But.below hb)⟩;rw [← I.out.2.2.2,takeL_none HFI.out];exact I.out.1.below hb
   | some i=>
    rw [show idxI (rdy t1) ws1=(i:Int) by unfold idxI;rw [hfi]] at HX;obtain ⟨hil,hip,-⟩:=zx.1 hfi;obtain ⟨o1,ho1⟩:∃ o1,ws1[i]?=some o1:=⟨_,qk hil⟩;have HO1:Hid (KeyT o1):=I.out.1.wtyp o1 (List.mem_of_getElem? ho1);have HI:=vm (qd hil ho1);have hin:i<n1:=HL.out▸hil
    obtain ⟨g,rfl⟩:∃ g,a1=some (Ad g 0):=by
     rcases I.out.1.own.2 with ⟨e,e1⟩|⟨g,cap',cur,e,_⟩
     ·omega
     ·cases e;exact ⟨g,rfl⟩
    have HFI:=vm hfi;clear hfi hil hip ho1
    go_wp2_with (first
     | (go_at_call 97;refine (HF.out _ (qj _ _)).mono ?_;rintro e w5 ⟨rfl,hb5⟩;have c4:w5.cell? (Ad b 4)=some (.slice (some (Ad g 0)) n1 c1):=(I.out.1.below hb5).row.cell (j:=4) (by omega))
     | (go_at_call 170;refine (HX.out _ hb5).mono ?_;rintro e w6 ⟨rfl,hb6⟩))
    have hb:=hb5.trans (hb6.mono hb5.size);have HB0:Hid (BookIs w6.drew b st cl ss (.pointer p1) (.slice (some (Ad g 0)) n1 c1) vK t1 ws1∧Bel wr w6.drew):=⟨I.out.1.below hb.drew,hb.drew⟩;have hS0:TakeS b g n1 c1 ws1 w6.drew:=⟨HB0.out.1.row.lt,HB0.out.1.apart rfl,HB0.out.1.row.cell (j:=4) (by omega),OwnO.opsAt HB0.out.1.own⟩;clear c4 hb5 hb6 hb;refine wp_region_held_drew (S:=TakeS b g n1 c1 ws1) (by kernel_rfl) hS0 (fun hHeld=>?_);clear hS0;generalize w6.drew=wE at hHeld HB0 ⊢;have HB:Hid (BookIs wE b st cl ss (.pointer p1) (.slice (some (Ad g 0)) n1 c1) vK t1 ws1):=HB0.out.1;have HBW:Hid (Bel wr wE):=HB0.out.2;clear HB0;refine ks 0 26 ?_;refine ks 1 27 ?_;refine ks 2 28 ?_;refine ks 3 29 ?_;refine ks 5 31 ?_;refine ks 6 32 ?_;refine ks 7 33 ?_;refine x9 8 34 (fun _ h=>h.wait) ?_;refine ks 9 35 ?_;refine ks 10 36 ?_;refine x9 11 37 (fun _ h=>h.cells HI.out.1 HI.out.2) ?_;refine rd 4 (some 30) rfl (fun K hK=>?_);have q3:wE.cell? (Ad b 3)=some (.pointer p1):=HB.out.row.cell (j:=3) (by omega);go_simp;clear q3;refine hK.out _ _ hHeld fun hHeld=>?_;clear hK K;refine rd 12 (some 38) rfl (fun K hK=>?_);go_simp;refine (sWith_any o1 HO1.out t1 _ wE HB.out.tree HB.out.typ HB.out.env).mono ?_;rintro e w2 ⟨⟨p2,rfl,hp2⟩,hb2⟩;obtain ⟨p2,rfl⟩:=hp2.ptr;have B2:=HB.out.below hb2;have t2:w2.cell? (Ad b 3)=some (.pointer p1):=B2.row.cell (j:=3) (by omega);have f2:w2.frozen? (Ad b 3)=false:=B2.row.free 3;have H2:Hid (BookIs w2 b st cl ss (.pointer p1) (.slice (some (Ad g 0)) n1 c1) vK t1 ws1∧IsTr w2 (.pointer p2) (t1.with o1 (rkOf o1.key))∧Bel wE w2):=⟨B2,hp2,hb2⟩;have HB2:=hHeld.below hb2;refine hK.out _ _ HB2 (fun hHeld=>?_);clear hK K B2 hp2 hb2 HB2;refine ks 13 39 ?_;refine ks 14 40 ?_;refine rd 15 none rfl (fun K hK=>?_);go_simp;refine hK.out _ _ (hHeld.set3 _) (fun hHeld=>?_);clear hK K t2 f2;refine xy ?_;have H3:Hid (BookIs (w2.setCell (Ad b 3) (.pointer p2)) b st cl ss (.pointer p2) (.slice (some (Ad g 0)) n1 c1) vK (t1.with o1 (rkOf o1.key)) ws1∧But (fun x=>x=b) wr (w2.setCell (Ad b 3) (.pointer p2))):=⟨H2.out.1.top H2.out.2.1 (Tr.with_T _ HO1.out HB.out.typ) (by have:=Tr.with_size o1 (rkOf o1.key) t1;have:=HNF.out;omega),((But.below HBW.out).trans (But.below H2.out.2.2)).trans (But.set b 3 _)⟩;clear H2 HB HBW hHeld;generalize World.setCell w2 _ _=w7 at H3 ⊢;have hd:Cs 171 #[.slice (some (Ad g 0)) n1 c1,I6 i,I6 ((i:Int)+1)] w7 fun e w'=>DelP w7 0 i (.slice (some (Ad g 0)) n1 c1) ws1 e w':=del_any 0 i (i+1) _ ws1 w7 H3.out.1.own HI.out.1 rfl;have HDl:=vm hd;clear hd;have c4:w7.cell? (Ad b 4)=some (.slice (some (Ad g 0)) n1 c1):=H3.out.1.row.cell (j:=4) (by omega)
    go_wp2_with (go_at_call 171;refine HDl.out.mono ?_;rintro e w8 ⟨v8,rfl,ho8,hv8,hb8⟩;have R8:RowIs w8 b 118 7 (rep7 st cl (.pointer p2) (.slice (some (Ad g 0)) n1 c1) ss vK):=H3.out.1.row.but hb8 (fun e=>H3.out.1.apart e rfl);have c8:w8.cell? (Ad b 4)=some (.slice (some (Ad g 0)) n1 c1):=R8.cell (j:=4) (by omega);have f8:w8.frozen? (Ad b 4)=false:=R8.free 4;obtain ⟨a9,c9,rfl⟩:=kt ho8;have H8:=vm (qd ho8 (qd hv8 hb8));clear ho8 hv8 hb8 R8);have hln:(ws1.eraseIdx i).length=n1-1:=by rw [List.length_eraseIdx,if_pos HI.out.1,HL.out]
    go_roundg (n1-1)
    case measure=>omega
    case rel=>
     refine ⟨p2,a9,n1-1,c9,t1.with o1 (rkOf o1.key),ws1.eraseIdx i,rfl,hln,vm ⟨?_,?_,?_,?_⟩⟩
     ·have:=H3.out.1.gone H8.out.1 H8.out.2.1 H8.out.2.2;rw [hln] at this;rw [hln];exact this
     ·rw [← I.out.2.1,← H8.out.2.1,hln]
     ·refine (I.out.2.2.1.trans (H3.out.2.mono fun x e=>Or.inl e)).trans ?_;exact (H8.out.2.2.mono fun x e=>Or.inr (I.out.2.1▸e)).trans ((But.set b 4 _).mono fun x e=>Or.inl e)
     ·rw [← I.out.2.2.2];obtain ⟨f,rfl⟩:∃ f,n1=f+1:=⟨n1-1,by omega⟩;rw [takeL_some HNF.out HFI.out HI.out.2];rfl
theorem filter_all {p:Opn→Bool} (h:∀ x∈l,p x=true):l.filter p=l:=je.2 h
theorem filter_non {p:Opn→Bool} (h:∀ x∈l,p x=false):l.filter p=[]:=List.filter_eq_nil_iff.2 fun x hx=>by rw [h x hx];simp
theorem node_by {rk:Int} {l r:Tr} (h:ByKey (Tr.node o rk l r).list):ByKey l.list∧ByKey r.list∧(∀ x∈l.list,x.key<o.key)∧(∀ x∈r.list,o.key<x.key):=by
 unfold Tr.list at h;obtain ⟨h1,h2,h3⟩:=List.pairwise_append.1 h;obtain ⟨h4,h5⟩:=js.1 h2;exact ⟨h1,h5,fun x hx=>h3 x hx o qy,h4⟩
theorem cut_list (k:Int):∀ (t:Tr),ByKey t.list→(t.cut k).1.list=t.list.filter (fun x=>decide (x.key<k))∧(t.cut k).2.list=t.list.filter (fun x=>!decide (x.key<k))
 | ⟨none⟩,_=>⟨rfl,rfl⟩
 | ⟨some (o,rk,l,r)⟩,h=>by
  obtain ⟨hl,hr,hlo,hro⟩:=node_by h;have il:=cut_list k l hl;have ir:=cut_list k r hr;unfold Tr.cut;by_cases hk:o.key<k
  ·rw [if_pos hk];have e1:l.list.filter (fun x=>decide (x.key<k))=l.list:=filter_all fun x hx=>decide_eq_true (by have:=hlo x hx;omega);have e2:l.list.filter (fun x=>!decide (x.key<k))=[]:=filter_non fun x hx=>by rw [decide_eq_true (show x.key<k by have:=hlo x hx;omega)];rfl
   simp [Tr.list,List.filter_append,e1,e2,ir.1,ir.2,hk]
  ·rw [if_neg hk];have e1:r.list.filter (fun x=>decide (x.key<k))=[]:=filter_non fun x hx=>decide_eq_false (by have:=hro x hx;omega);have e2:r.list.filter (fun x=>!decide (x.key<k))=r.list:=filter_all fun x hx=>by rw [decide_eq_false (show ¬ x.key<k by have:=hro x hx;omega)];rfl
   simp [Tr.list,List.filter_append,e1,e2,il.1,il.2,hk]
def putK (o:Opn) (os:List Opn):List Opn:=os.filter (fun x=>decide (x.key<o.key))++o::os.filter (fun x=>!decide (x.key<o.key))
theorem with_list (o:Opn) (rk:Int):∀ (t:Tr),ByKey t.list→(∀ x∈t.list,x.key≠o.key)→(t.with o rk).list=putK o t.list
 | ⟨none⟩,_,_=>rfl
 | ⟨some (o',rk',l,r)⟩,h,hn=>by
  obtain ⟨hl,hr,hlo,hro⟩:=node_by h;have hno:o'.key≠o.key:=hn o' (by simp [Tr.list]);have il:=with_list o rk l hl (fun x hx=>hn x (by simp [Tr.list,hx]));have ir:=with_list o rk r hr (fun x hx=>hn x (by simp [Tr.list,hx]))
  unfold Tr.with
  split
  ·have c:=cut_list o.key _ h;unfold putK;rw [← c.1,← c.2];rfl
  ·by_cases h1:o.key<o'.key
   ·rw [if_pos h1];have e1:r.list.filter (fun x=>decide (x.key<o.key))=[]:=filter_non fun x hx=>decide_eq_false (by have:=hro x hx;omega);have e2:r.list.filter (fun x=>!decide (x.key<o.key))=r.list:=filter_all fun x hx=>by rw [decide_eq_false (show ¬ x.key<o.key by have:=hro x hx;omega)];rfl
    have h2:¬ o'.key<o.key:=by omega
    simp [Tr.list,putK,List.filter_append,e1,e2,il,h2]
   ·rw [if_neg h1,if_pos (by omega)];have e1:l.list.filter (fun x=>decide (x.key<o.key))=l.list:=filter_all fun x hx=>decide_eq_true (by have:=hlo x hx;omega);have e2:l.list.filter (fun x=>!decide (x.key<o.key))=[]:=filter_non fun x hx=>by rw [decide_eq_true (show x.key<o.key by have:=hlo x hx;omega)];rfl
    have h2:o'.key<o.key:=by omega
    simp [Tr.list,putK,List.filter_append,e1,e2,ir,h2]
theorem putK_by (h:ByKey os) (hn:∀ x∈os,x.key≠o.key):ByKey (putK o os):=by
 unfold putK ByKey;refine List.pairwise_append.2 ⟨h.sublist z8,js.2 ⟨fun x hx=>?_,h.sublist z8⟩,fun x hx y hy=>?_⟩
 ·have h1:=(qo.1 hx).2;have h2:=hn x (qo.1 hx).1;simp at h1;omega
 ·have h1:=(qo.1 hx).2;simp at h1;rcases qu.1 hy with rfl|hy
  ·exact h1
  ·have h3:=(qo.1 hy).2;simp at h3;omega
theorem kw {x:Opn}:x∈putK o os↔x=o∨x∈os:=by
 unfold putK;simp only [zd,qu,qo];constructor
 ·rintro (h|h|h)
  ·exact Or.inr h.1
  ·exact Or.inl h
  ·exact Or.inr h.1
 ·rintro (h|h)
  ·exact Or.inr (Or.inl h)
  ·by_cases hk:x.key<o.key
   ·exact Or.inl ⟨h,by simp [hk]⟩
   ·exact Or.inr (Or.inr ⟨h,by simp [hk]⟩)
theorem find_non {p:Opn→Bool} (h:∀ x∈l,p x=false):l.find? p=none:=List.find?_eq_none.2 fun x hx=>by rw [h x hx];simp
theorem get_list (k:Int):∀ (t:Tr),ByKey t.list→t.get k=t.list.find? (fun x=>decide (x.key=k))
 | ⟨none⟩,_=>rfl
 | ⟨some (o,rk,l,r)⟩,h=>by
  obtain ⟨hl,hr,hlo,hro⟩:=node_by h;have il:=get_list k l hl;have ir:=get_list k r hr;unfold Tr.get;rw [show (Tr.node o rk l r).list=l.list++o::r.list from rfl,List.find?_append,List.find?_cons];rcases Int.lt_trichotomy k o.key with h1|h1|h1
  ·have e1:r.list.find? (fun x=>decide (x.key=k))=none:=find_non fun x hx=>decide_eq_false (by have:=hro x hx;omega);have h2:¬ o.key=k:=by omega
   simp [e1,h1,h2,il]
  ·have e1:l.list.find? (fun x=>decide (x.key=k))=none:=find_non fun x hx=>decide_eq_false (by have:=hlo x hx;omega);have h2:o.key=k:=h1.symm;simp [e1,h2]
  ·have e1:l.list.find? (fun x=>decide (x.key=k))=none:=find_non fun x hx=>decide_eq_false (by have:=hlo x hx;omega);have h2:¬ o.key=k:=by omega
   have h3:¬ k<o.key:=by omega
   simp [e1,h2,h3,ir]

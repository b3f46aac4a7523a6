import Derived.Test.YtgccjefbedpmpaaGreatDoorJKeepS
import Derived.Test.YtgccjefbedpmpaaGreatDoorYDel
import Derived.Test.YtgccjefbedpmpaaGreatDoorYTk
import Derived.Deep.RegionLaw
import Derived.Laws.AppendOwnNone
import Derived.Test.YtgccjefbedpmpaaGreatDoorYInsr
import Derived.Shelf.Spec.SlicesInsertGrow
namespace Go.Proofs.YtgccjefbedpmpaaGreatDoor
open Go.RowKit
set_option maxRecDepth 100000
set_option maxHeartbeats 8000000
variable {B b c cap g i ii jj n : Nat} {a : Option Addr} {cl ss : Int} {v vW : Value}
structure Sp where
 lo:Int
 hi:Int
def dS:DecidableEq Sp:=fun a b=>if h:a.lo=b.lo∧a.hi=b.hi then isTrue (by cases a;cases b;simp_all) else isFalse fun e=>h (e▸⟨rfl,rfl⟩)
def spCs:List Sp→List Value
 | []=>[]
 | s::l=>[U6 s.lo,U6 s.hi]++spCs l
def OwnS (w:World) (B:Nat) (v:Value) (l:List Sp):Prop:=w.ownsRow B 186 2 v l.length (spCs l)
theorem spCs_app (a b:List Sp):spCs (a++b)=spCs a++spCs b:=by
 induction a with
 | nil=>rfl
 | cons x a ih=>rw [jn,spCs,spCs,ih,qr]
theorem vz (l:List Sp):(spCs l).length=l.length*2:=by
 induction l with
 | nil=>rfl
 | cons o l ih=>rw [spCs,qe,ih,qp];simp;omega
theorem Qo (l:List Sp):∀ v∈spCs l,v.oneCell'=true:=by
 induction l with
 | nil=>intro v h;cases h
 | cons o l ih=>
  intro v h;rw [spCs,zd] at h;rcases h with h | h
  ·simp only [qu,yr,or_false] at h;rcases h with rfl | rfl <;> rfl
  ·exact ih v h
theorem spCs_take (l:List Sp) (i:Nat):(spCs l).take (i*2)=spCs (l.take i):=by
 induction l generalizing i with
 | nil=>simp [spCs]
 | cons o l ih=>
  cases i with
  | zero=>simp [spCs]
  | succ i=>rw [show (i+1)*2=i*2+2 by omega];simp [spCs,ih]
theorem spCs_drop (l:List Sp) (i:Nat):(spCs l).drop (i*2)=spCs (l.drop i):=by
 induction l generalizing i with
 | nil=>simp [spCs]
 | cons o l ih=>
  cases i with
  | zero=>simp [spCs]
  | succ i=>rw [show (i+1)*2=i*2+2 by omega];simp [spCs,ih]
theorem spCs_get:∀ (l:List Sp) {i:Nat} (hi:i < l.length),(spCs l)[i*2]?=some (U6 l[i].lo)∧(spCs l)[i*2+1]?=some (U6 l[i].hi)
 | [],i,hi=>by cases hi
 | s::l,0,hi=>⟨rfl,rfl⟩
 | s::l,i+1,hi=>by
  have:=spCs_get l (i:=i) (by simpa using hi);rw [show (i+1)*2=i*2+2 by omega];exact this
theorem OwnS.cells {w:World} {l:List Sp} (h:OwnS w B (.slice (some (Ad g 0)) n cap) l) (hi:i < l.length):w.cell? ⟨g,i*2,none⟩=some (U6 l[i].lo)∧w.cell? ⟨g,i*2+1,none⟩=some (U6 l[i].hi):=by
 have hn:n=l.length:=by
  rcases h.2 with ⟨e,-⟩ | ⟨g',cap',cur,e,-⟩
  ·cases e
  ·simp only [Value.slice.injEq] at e;exact e.2.1
 subst hn;have:=spCs_get l hi;exact ⟨(za h _ (by omega)).trans this.1,(za h _ (by omega)).trans this.2⟩
theorem OwnS.form {w:World} {l:List Sp} (h:OwnS w B v l):∃ a c,v=.slice a l.length c:=by
 rcases h.2 with ⟨e,h0⟩ | ⟨g,cap,cur,e,-⟩
 ·exact ⟨none,0,by rw [e,h0]⟩
 ·exact ⟨_,_,e⟩
theorem OwnS.ptr {w:World} {l:List Sp} (h:OwnS w B (.slice a n c) l) (h0:0 < l.length):∃ g,a=some (Ad g 0):=by
 rcases h.2 with ⟨-,q⟩ | ⟨g,cap,cur,e,-⟩
 ·omega
 ·simp only [Value.slice.injEq] at e;exact ⟨g,e.1⟩
theorem OwnS.keep {w w':World} {l:List Sp} (h:OwnS w B v l) (hb:Bel w w'):OwnS w' B v l:=kp h fun g hg=>hb.block g (qf h g hg).2
theorem ownS_nil (w:World) (B:Nat):OwnS w B (.slice none 0 0) []:=⟨rfl,Or.inl ⟨rfl,rfl⟩⟩
theorem infoSp:(Tryz.prog.info? 186).map (fun i=>(i.zero,i.size,i.bytes))=some (some (.agg #[U6 0,U6 0]),2,16):=by kernel_rfl
def zsp (k:Nat):List Value:=List.replicate (k*2) (U6 0)
theorem zsp_cells (k:Nat):(Builtin.zeroCells (Value.agg #[U6 0,U6 0]).cells k).toList=zsp k:=by
 have e:(Value.agg #[U6 0,U6 0]).cells=#[U6 0,U6 0]:=by kernel_rfl
 rw [e];unfold Builtin.zeroCells zsp;rw [List.eq_replicate_iff];refine ⟨by simp,fun b hb=>?_⟩;simp only [Array.toList_map,jt] at hb;obtain ⟨i,-,rfl⟩:=hb;have:i % 2=0∨i % 2=1:=by omega
 rcases this with h | h
 ·show (#[U6 0,U6 0][i % 2]!)=_;rw [h];rfl
 ·show (#[U6 0,U6 0][i % 2]!)=_;rw [h];rfl
theorem own_delS {w:World} {j:Nat} {l:List Sp} (h:OwnS w B (.slice (some (Ad g 0)) n cap) l) (hn:l.length=n) (hij:i≤j) (hj:j≤n) :
  OwnS ((w.setCells g (i*2) (spCs (l.drop j))).setCells g ((n-(j-i))*2) (zsp (j-i))) B (.slice (some (Ad g 0)) (n-(j-i)) cap) (l.take i++l.drop j):=by
 unfold OwnS at h ⊢;rw [hn] at h;have hl:=vz l;rw [hn] at hl;have hd:(spCs (l.drop j)).length=(n-j)*2:=by rw [vz,qt,hn]
 have hz:(zsp (j-i)).length=(j-i)*2:=by unfold zsp;rw [yc]
 have h1:=ve (spCs (l.drop j)) (i*2) w _ h (by rw [hd,hl];omega)
 have h2:=ve (zsp (j-i)) ((n-(j-i))*2) _ _ h1 (by
  rw [qe,qe,qm,qt,hd,hl,hz]
  omega)
 have h3:=own_shorter h2 (Nat.sub_le n (j-i));have e:(l.take i++l.drop j).length=n-(j-i):=by rw [qe,qm,qt,hn];omega
 rw [e];have e2:spCs (l.take i++l.drop j)=(spCs l).take (i*2)++spCs (l.drop j):=by rw [spCs_app,spCs_take]
 have e3:((spCs l).take (i*2)++spCs (l.drop j)).length=(n-(j-i))*2:=by rw [qe,qm,hd,hl];omega
 rw [e2]
 have:∀ (X Y Z W:List Value),X.length=(n-(j-i))*2→(List.take ((n-(j-i))*2) (X++Y)++Z++W).take ((n-(j-i))*2)=X:=by
  intro X Y Z W hX;rw [j8 hX,qr,j8 hX]
 rw [this _ _ _ _ e3] at h3;exact h3
theorem run_clear_sp (w:World) (ty:TypeId) (g k m c:Nat) (hc:∀ j,j < m*2→(w.cell? ⟨g,k+j,none⟩).isSome=true) (hf:∀ j,j < m*2→w.frozen? ⟨g,k+j,none⟩=false) :
  (Builtin.clear_ #[114] ty #[.slice (some (Ad g k)) m c]).run Tryz.prog w=.ok (.tuple #[]) (w.setCells g k (zsp m)):=by
 have hl:(zsp m).length=m*2:=by unfold zsp;rw [yc]
 have hst:=run_storeCells_cells (P:=Tryz.prog) g k (zsp m) 0 w (by rw [hl];simpa using hc) (by rw [hl];simpa using hf) (by intro v hv;rw [List.eq_of_mem_replicate hv];rfl);simp only [y8] at hst
 cases m with
 | zero=>simp [Builtin.clear_,run_underlying Tryz.underlying114,zsp];rfl
 | succ m=>simp [Builtin.clear_,run_underlying Tryz.underlying114,Tryz.zeroValue186,zsp_cells,hst]
def DelS (w:World) (B i j:Nat) (v:Value) (l:List Sp) (e:Ending) (w':World):Prop:=∃ v',e=.returned v'∧OwnS w' B v' (l.take i++l.drop j)∧v'.ownBlock=v.ownBlock∧But (fun b=>v.ownBlock=some b) w w'
theorem delS_lt (B i j:Nat) (v:Value) (l:List Sp) (w:World) (h:OwnS w B v l) (hij:i < j) (hjl:j≤l.length) :
  Cs 193 #[v,I6 i,I6 j] w fun e w'=>DelS w B i j v l e w':=by
 obtain ⟨io,hio,-,hsz,-⟩:=info_parts infoSp;rcases h.2 with ⟨_,e0⟩ | ⟨g,cap,cur,rfl,h1,h2,h3,h4,h5,h6⟩
 ·omega
 generalize hn:l.length=n at *;have hcap:=h4;unfold maxLen at hcap;obtain ⟨news,hnews⟩:∃ news,news=spCs (l.drop j):=⟨_,rfl⟩;have hlen:news.length=(n-j)*2:=by rw [hnews,vz,qt,hn]
 have hcell:∀ k,k < n*2→w.cell? (Ad g k)=(spCs l)[k]?:=fun k hk=>za (show w.ownsRow B 186 2 (.slice (some (Ad g 0)) n cap) n (spCs l) by have:=h;unfold OwnS at this;rwa [hn] at this) k hk;have hfroz:∀ k,w.frozen? (Ad g k)=false:=fun k=>zq (show w.ownsRow B 186 2 (.slice (some (Ad g 0)) n cap) n (spCs l) by have:=h;unfold OwnS at this;rwa [hn] at this) k;have hol:(spCs l).length=n*2:=by rw [vz,hn]
 obtain ⟨A,hA,hsrc⟩:∃ A:Addr,(if cap=j then some ((Ad g 0):Addr) else some ⟨g,j*2,none⟩)=some A∧Hid (∀ t u,news[t]?=some u→w.drew.cell? (A.add t)=some u):=by
  by_cases hc:cap=j
  ·refine ⟨(Ad g 0),by simp [hc],fun t u hu=>?_⟩;have h0:news.length=0:=by rw [hlen];omega
   rw [zy.1 h0] at hu;simp at hu
  ·refine ⟨⟨g,j*2,none⟩,by simp [hc],fun t u hu=>?_⟩;have ht:=(zn.1 hu).1;rw [hlen] at ht;rw [Addr.add_lit];show w.cell? ⟨g,j*2+t,none⟩=_;rw [hcell _ (by omega),← hu,hnews,← spCs_drop,ju]
 have s1:Hid (news.length=(n-j)*2):=hlen;have s2:Hid (∀ u∈news,u.oneCell'=true):=by rw [hnews];exact Qo _
 have s3:Hid (∀ t,t < news.length→(w.drew.cell? ⟨g,0+i*2+t,none⟩).isSome=true∧w.drew.frozen? ⟨g,0+i*2+t,none⟩=false):=by
  intro t ht;rw [hlen] at ht;rw [q9];refine ⟨?_,hfroz _⟩;show (w.cell? _).isSome=true;rw [hcell _ (by omega),qk (by omega)];rfl
 obtain ⟨W1,hW1⟩:∃ W1,W1=w.drew.setCells g (0+i*2) news:=⟨_,rfl⟩;have hW:Hid (W1=w.drew.setCells g (0+i*2) news):=hW1
 have hown1:W1.ownsRow B 186 2 (.slice (some (Ad g 0)) n cap) n ((spCs l).take (0+i*2)++news++(spCs l).drop (0+i*2+news.length)):=by
  rw [hW1];refine ve news (0+i*2) w.drew _ ?_ (by rw [hlen,hol];omega);have:=h;unfold OwnS at this;rw [hn] at this;exact this
 have hcl:∀ ty,(Builtin.clear_ #[114] ty #[.slice (some ⟨g,(i+(n-j))*2,none⟩) (n-(i+(n-j))) (cap-(i+(n-j)))]).run Tryz.prog W1=.ok (.tuple #[]) (W1.setCells g ((n-(j-i))*2) (zsp (j-i))):=by
  intro ty;rw [show n-(i+(n-j))=j-i by omega,show i+(n-j)=n-(j-i) by omega];refine run_clear_sp W1 ty g ((n-(j-i))*2) (j-i) _ (fun k hk=>?_) (fun k hk=>zq hown1 _);rw [za hown1 _ (by omega),qk (by rw [hown1.1];omega)];rfl
 clear hown1;have hnk:¬ cap=i+(n-j):=by omega
 have hnk2:i+(n-j)≤n:=by omega
 have hnk3:i+(n-j)≤cap:=by omega
 have hic:i≤cap:=by omega
 have hjc:j≤cap:=by omega
 have hij':i≤j:=by omega
 have hjn:j≤n:=by omega
 have hne:¬ i=j:=by omega
 have HH:=vm (qd h (qd hn (qd hnews hij)));clear hW1 hcell hfroz hol hlen hnews h h1 h2 h5 h6 h4 hn hij;go_enter Tryz.func193,Tryz.ntmps193;go_wp2_with fail;go_region_law (refine step_append_room rfl (.tmp 22) (.tmp 25) 114 rfl 186 io 2 Tryz.underlying114 hio hsz g 0 i cap (by simp [Act.eval,Act.put]) A (n-j) (cap-j) news (by simp [Act.eval,Act.put]) s1.out hsrc.out s2.out (by omega) s3.out ?_;rw [← hW.out]);go_wp2;go_ret;obtain ⟨h,hn,hnews,hij⟩:=HH.out;refine ⟨_,rfl,?_,rfl,?_⟩
 ·rw [hW.out,q9,hnews,show i+(n-j)=n-(j-i) by omega];exact own_delS (w:=w.drew) h hn (yz hij) hjn
 ·rw [hW.out];exact vy (X:=fun b=>some g=some b) rfl _ _ _ (vy (X:=fun b=>some g=some b) rfl _ _ _ (But.refl _ _).drew)
theorem delS_same (i c:Nat) (a:Option Addr) (n:Nat) (w:World) (hn:i≤n) (hlc:n≤c) :
  Cs 193 #[.slice a n c,I6 i,I6 i] w fun e w'=>e=.returned (.slice a n c)∧w'=w:=by
 have i1:i≤c:=by omega
 by_cases hil:n=i
 ·go_enter Tryz.func193,Tryz.ntmps193;go_wp2_with fail;go_ret;exact ⟨rfl,rfl⟩
 ·go_enter Tryz.func193,Tryz.ntmps193;go_wp2_with fail;go_ret;exact ⟨rfl,rfl⟩
theorem delS_any (B i j:Nat) (v:Value) (l:List Sp) (w:World) (h:OwnS w B v l) (hij:i≤j) (hjl:j≤l.length) :
  Cs 193 #[v,I6 i,I6 j] w fun e w'=>DelS w B i j v l e w':=by
 rcases zr i j with q | q
 ·exact delS_lt B i j v l w h q hjl
 ·obtain rfl:i=j:=by omega
  have hcap:∃ a c,v=.slice a l.length c∧l.length≤c:=by
   rcases h.2 with ⟨e,h0⟩ | ⟨g,cap,cur,e,-,-,k,-⟩
   ·exact ⟨none,0,by rw [e,h0],by omega⟩
   ·exact ⟨_,_,e,k⟩
  obtain ⟨a,c,rfl,hlc⟩:=hcap;refine (delS_same i c a l.length w hjl hlc).mono ?_;rintro e w' ⟨rfl,rfl⟩;exact ⟨_,rfl,by rw [jh];exact h,rfl,But.refl _ _⟩
theorem whole_any (w:World):Cs 111 #[] w fun e w'=>e=.returned (.agg #[U6 0,U6 1099511627776])∧Bel w w':=by
 go_enter Tryz.func111,Tryz.ntmps111;go_wp2_with fail;exact bodyPost_ret (results_cell_row Tryz.results111 _ _ w.heap.size 186 _ (0,0) _ rfl (heap_alloc_new _ _) Tryz.underlying186 rfl (by kernel_rfl)) rfl ⟨rfl,kq _ _⟩
theorem isEmpty_any (s:Sp) (w:World):Cs 257 #[.agg #[U6 s.lo,U6 s.hi]] w fun e w'=>e=.returned (.bool (s.lo==s.hi))∧Bel w w':=by
 go_enter Tryz.func257,Tryz.ntmps257;go_wp2_with fail;go_ret;exact ⟨rfl,kq _ _⟩
def SpsIs (w:World) (a:Option Addr) (c:Nat) (x:List Sp):Prop:=(x=[]∧a=none∧c=0)∨∃ g,a=some (Ad g 0)∧x.length≤c∧∀ j u,(spCs x)[j]?=some u→w.cell? (Ad g j)=some u
theorem OwnS.is {w:World} {l:List Sp} (h:OwnS w B (.slice a n c) l) {k:Nat} (hk:k≤l.length):SpsIs w a c (l.take k):=by
 rcases h.2 with ⟨e,h0⟩ | ⟨g,cap,cur,e,-,-,hc,-⟩
 ·simp only [Value.slice.injEq] at e;exact Or.inl ⟨by rw [zy.1 h0,List.take_nil],e.1,e.2.2⟩
 ·simp only [Value.slice.injEq] at e;obtain ⟨rfl,rfl,rfl⟩:=e;refine Or.inr ⟨g,rfl,by rw [qm];omega,fun j u hu=>?_⟩;have hj:=(zn.1 hu).1;rw [vz,qm] at hj;rw [za h j (by omega),← hu,← spCs_take,jc (by omega)]
theorem cloneS_any (x:List Sp) (a:Option Addr) (c:Nat) (w:World) (h:SpsIs w a c x) (hl:x.length≤1000000):Cs 192 #[.slice a x.length c] w fun e w'=>(∃ v',e=.returned v'∧OwnS w' w.heap.size v' x∧(a=none→v'=.slice none 0 0)∧(a≠none→∃ g,v'.ownBlock=some g))∧Bel w w':=by
 obtain ⟨io,hio,hz0,hz1,hz2⟩:=info_parts infoSp;have hq:∀ (w:World) (a:Option Addr) (n c n' c':Nat),(binOp .eql 114 (.slice a n c) (.slice none n' c')).run Tryz.prog w=.ok (.bool a.isNone) w:=fun w a n c n' c'=>Lib.run_eql_slice_nil w _ _ a n c n' c' Tryz.underlying114;rcases h with ⟨rfl,rfl,rfl⟩ | ⟨g,rfl,hc,hx⟩
 ·go_enter Tryz.func192,Tryz.ntmps192;go_wp2_with fail;go_ret;exact ⟨⟨_,rfl,ownS_nil _ _,fun _=>rfl,fun q=>absurd rfl q⟩,qj _ _⟩
 ·have HX:=kr hx;clear hx;go_enter Tryz.func192,Tryz.ntmps192;go_wp2_with (at_builtin;refine wpList_append_own_at _ rfl (.tmp 5) (.tmp 6) 114 rfl w.heap.size 186 io (.agg #[U6 0,U6 0]) 2 16 Tryz.underlying114 hio hz0 hz1 hz2 rfl (by decide) (.slice (some (Ad w.heap.size 0)) 0 0) 0 [] rfl ?ho (Ad g 0) x.length c (spCs x) rfl (by rw [vz]) ?hn (Qo _) (by unfold maxLen;omega) (by omega) (by simp) ?_;(case hn=>intro j u hu;rw [Addr.add_lit,q9];exact (World.cell?_alloc_lt _ _ _ (block_lt_of_cell (HX.out j u hu))).trans (HX.out j u hu));(case ho=>exact ⟨rfl,Or.inr ⟨w.heap.size,0,#[],rfl,qb _,heap_alloc_new _ _,qb _,by unfold maxLen;omega,rfl,rfl⟩⟩);intro v2 w2 ho2 hg2 _ hat2;rw [q9,zw] at ho2;have H2:=kr (qd ho2 (qd hg2 hat2));clear ho2 hg2 hat2);go_ret;refine ⟨⟨_,rfl,H2.out.1,(fun q=>by cases q),fun _=>by rcases H2.out.2.2 with q | q <;> exact ⟨_,q⟩⟩,?_⟩;have hg:=H2.out.2.1;have b1:=kq w (.cells #[] 186);exact ⟨hg.os.trans b1.os,hg.tape.trans b1.tape,hg.output.trans b1.output,qi b1.size hg.size,fun i hi=>(hg.block i (ql hi b1.size) fun e=>by have e:i=w.heap.size:=qq e;omega).trans (b1.block i hi)⟩
def IdxS (l:List Sp) (s:Sp) (e:Ending):Prop:=(∃ i,∃ h:i < l.length,l[i]=s∧(∀ j (hj:j < i),l[j]≠s)∧e=.returned (I6 i))∨(s ∉ l∧e=.returned (I6 (-1)))
theorem Sp.ext' {x y:Sp} (h1:x.lo=y.lo) (h2:x.hi=y.hi):x=y:=by
 cases x;cases y;simp_all
theorem idxS_any (l:List Sp) (s:Sp) (a:Option Addr) (c:Nat) (w:World) (h:SpsIs w a c l) (hl:l.length≤1000000):Cs 199 #[.slice a l.length c,.agg #[U6 s.lo,U6 s.hi]] w fun e w'=>IdxS l s e∧Bel w w':=by
 have HX:=km h;have HB0:Hid (Bel w (w.alloc (.cells #[U6 s.lo,U6 s.hi] 186))):=kq _ _;have HR0:Hid (RowIs (w.alloc (.cells #[U6 s.lo,U6 s.hi] 186)) w.heap.size 186 2 (fun j=>if j=0 then U6 s.lo else U6 s.hi)):=RowIs.last rfl rfl;clear h;go_enter Tryz.func199,Tryz.ntmps199;go_wp2_with fail;go_loopw [5,8] (fun _ iv wr=>∃ i:Nat,i≤l.length∧iv=I6 i∧Hid (∀ j (_:j < i) (h:j < l.length),l[j]≠s)∧Hid (Bel w wr∧RowIs wr w.heap.size 186 2 (fun j=>if j=0 then U6 s.lo else U6 s.hi))) (fun _ iv _=>l.length-(intOf iv).toNat)
 case atStart=>exact ⟨0,qs _,rfl,km (fun j h=>absurd h (yl _)),km ⟨HB0.out,HR0.out⟩⟩
 case round=>
  obtain ⟨i,hi,rfl,HA,HB⟩:=hrel;clear HB0 HR0;by_cases hlt:i < l.length
  ·have li:(i:Int) < (l.length:Int):=by omega
   rcases HX.out with ⟨h0,-,-⟩ | ⟨g,rfl,hc,hO⟩
   ·subst h0;cases hlt
   have HC:Hid (∀ W,Bel w W→W.cell? ⟨g,i*2,none⟩=some (U6 l[i].lo)∧W.cell? ⟨g,i*2+1,none⟩=some (U6 l[i].hi)):=fun W h=>by
    have q:=spCs_get l hlt;have q1:=hO _ _ q.1;have q2:=hO _ _ q.2;exact ⟨(h.cell (block_lt_of_cell q1)).trans q1,(h.cell (block_lt_of_cell q2)).trans q2⟩
   clear hO;go_wp2_with fail;refine wp_region_held_drew (S:=fun W=>Bel w W∧RowIs W w.heap.size 186 2 (fun j=>if j=0 then U6 s.lo else U6 s.hi)) (by kernel_rfl) (⟨HB.out.1.drew,HB.out.2.drew⟩) (fun hHeld=>?_);generalize World.drew _=wD at hHeld ⊢;clear HB;refine x9 0 11 (fun W h=>qd (show W.cell? (Ad w.heap.size 0)=some (U6 s.lo) from h.2.cell (j:=0) (by omega)) (show W.cell? (Ad w.heap.size 1)=some (U6 s.hi) from h.2.cell (j:=1) (by omega))) ?_;refine ks 1 12 ?_;refine ks 2 13 ?_;refine ks 3 14 ?_;refine x9 4 15 (fun W h=>HC.out W h.1) ?_;by_cases he:s=l[i]
   ·refine tk 5 16 rfl (Or.inl ⟨by rfl,fun w _=>by rw [← he];go_simp;rfl⟩) hHeld ?_;simp only [Act.put,Qc,Qb,Qa];refine xy ?_;have HE:=km he;clear he;go_wp2_with fail;go_ret;exact ⟨Or.inl ⟨i,hlt,HE.out.symm,fun j hj=>HA.out j hj (by omega),rfl⟩,hHeld.1⟩
   ·refine tk 5 16 (v:=.bool false) rfl (Or.inl ⟨by rfl,fun w _=>by go_simp;intro h1 h2;exact he (Sp.ext' h1 h2)⟩) hHeld ?_;simp only [Act.put,Qc,Qb,Qa];refine xy ?_;have HE:=km he;clear he;go_wp2_with fail;go_roundw
    case rel=>exact ⟨i+1,hlt,by go_num,km (fun j hj hl=>by
     rcases zr j i with q | q
     ·exact HA.out j q hl
     ·obtain rfl:j=i:=by omega
      exact fun e=>HE.out e.symm),km hHeld⟩
    case measure=>simp [intOf];omega
  ·obtain rfl:i=l.length:=by omega
   go_wp2_with fail;go_ret;exact ⟨Or.inr ⟨fun hm=>by obtain ⟨j,hj,e⟩:=qw.1 hm;exact HA.out j hj hj e,rfl⟩,HB.out.1⟩
theorem OwnS.notRow {w:World} {l:List Sp} {f:Nat→Value} (h:OwnS w B v l) (hr:RowIs w b 118 n f):v.ownBlock≠some b:=by
 intro hb;rcases h.2 with ⟨q,-⟩ | ⟨g',cap,cur,q,-,q2,-⟩
 ·rw [q] at hb;cases hb
 ·rw [q] at hb;cases hb;unfold RowIs at hr;rw [q2] at hr;simp only [jx,Obj.cells.injEq] at hr;exact absurd hr.2.1 (by decide)
theorem OwnS.at' {w:World} {l:List Sp} (h:OwnS w B v l) (hg:v.ownBlock=some g):∃ c,v=.slice (some (Ad g 0)) l.length c:=by
 rcases h.2 with ⟨q,-⟩ | ⟨g',cap,cur,q,-⟩
 ·rw [q] at hg;cases hg
 ·rw [q] at hg;cases hg;exact ⟨_,q⟩
theorem rep_work {w:World} {st:Int} {top vK:Value} (h:RowIs w b 118 7 (rep7 st cl top vW ss vK)) (v:Value):RowIs (w.setCell (Ad b 6) v) b 118 7 (rep7 st cl top vW ss v):=(h.set 6 v).congr fun j hj=>by
 match j,hj with
 | 0,_=>rfl
 | 1,_=>rfl
 | 2,_=>rfl
 | 3,_=>rfl
 | 4,_=>rfl
 | 5,_=>rfl
 | 6,_=>rfl
 | n+7,h=>exact absurd h (by omega)
structure TurnP (w w':World) (b:Nat) (st cl ss:Int) (top vW v:Value) (B:Nat) (l:List Sp) (m:Nat) (vf v':Value):Prop where
 first:OwnS w' w.heap.size vf (l.take m)
 own:OwnS w' B v' (l.drop m++l.take m)
 row:RowIs w' b 118 7 (rep7 st cl top vW ss v')
 at':v'.ownBlock=v.ownBlock∨∃ g,v'.ownBlock=some g∧w.heap.size≤g
 but:But (fun x=>x=b∨v.ownBlock=some x) w w'
 free:∀ g,vf.ownBlock=some g→v'.ownBlock≠some g
theorem turn_some (b:Nat) (st cl ss:Int) (top vW v:Value) (l:List Sp) (m B:Nat) (w:World) (hr:RowIs w b 118 7 (rep7 st cl top vW ss v)) (hO:OwnS w B v l) (hl:l.length≤1000000) (h0:0 < l.length) (hm:0 < m∧m≤1000) :
  Cs 112 #[(pt b 6),I6 m] w fun e w'=>∃ vf v',e=.returned vf∧TurnP w w' b st cl ss top vW v B l m vf v':=by
 obtain ⟨io,hio,hz0,hz1,hz2⟩:=info_parts infoSp;obtain ⟨a,c,rfl⟩:=hO.form;obtain ⟨g,rfl⟩:=hO.ptr h0;have hne:g≠b:=fun e=>hO.notRow hr (by rw [e];rfl);have c6:w.cell? (Ad b 6)=some (.slice (some (Ad g 0)) l.length c):=hr.cell (j:=6) (by omega);obtain ⟨k,hk⟩:∃ k:Nat,k=min m l.length:=⟨_,rfl⟩;have hk1:0 < k∧k≤l.length:=by omega
 have hmin:min (m:Int) (l.length:Int)=(k:Int):=by omega
 have hlk:(l.take k).length=k:=by rw [qm];omega
 have hcc:l.length≤c:=by
  rcases hO.2 with ⟨e,-⟩ | ⟨_,_,_,e,-,-,q,-⟩
  ·cases e
  ·simp only [Value.slice.injEq] at e;omega
 have kc:(k:Int)≤(c:Int):=by omega
 have HCl:=km (cloneS_any (l.take k) (some (Ad g 0)) c w (hO.is hk1.2) (by omega));rw [hlk] at HCl;have HR:=km hr;have HO:=km hO;have HK:=km (qd hk (qd hk1.1 (qd hk1.2 (qd hne hlk))))
 have hkm:l.take m=l.take k∧l.drop m=l.drop k:=by
  subst hk;rcases Nat.le_total m l.length with q | q
  ·rw [jr q];exact ⟨rfl,rfl⟩
  ·rw [Nat.min_eq_right q,ja q,yq q,ja (qb _),yq (qb _)];exact ⟨rfl,rfl⟩
 have HM:=km hkm;clear hr hO hk hk1 hne hlk hkm;go_enter Tryz.func112,Tryz.ntmps112
 go_wp2_with (first
  | (go_at_call 192;refine HCl.out.mono ?_;rintro e w1 ⟨⟨vf,rfl,ho1,-,-⟩,hb1⟩;have c61:w1.cell? (Ad b 6)=some (.slice (some (Ad g 0)) l.length c):=(hb1.cell (block_lt_of_cell c6)).trans c6;obtain ⟨af,cf,hf⟩:=ho1.form;rw [HK.out.2.2.2.2] at hf;subst hf;obtain ⟨gf,rfl⟩:=ho1.ptr (by rw [HK.out.2.2.2.2];exact HK.out.2.1);have H1:=km (qd ho1 hb1);clear ho1 hb1)
  | (go_at_call 193;refine (delS_any B 0 k _ l w1 (HO.out.keep H1.out.2) (qs _) HK.out.2.2.1).mono ?_;rintro e w2 ⟨v1,rfl,ho2,hv2,hb2⟩;rw [List.take_zero,zw] at ho2;have H2:=km (qd ho2 (qd hv2 hb2));clear ho2 hv2 hb2)
  | (at_builtin;(refine wpList_append_own_at _ rfl (.tmp 24) (.tmp 25) 114 rfl B 186 io (.agg #[U6 0,U6 0]) 2 16 Tryz.underlying114 hio hz0 hz1 hz2 rfl (by decide) v1 (l.drop k).length (spCs (l.drop k)) rfl H2.out.1 (Ad gf 0) k cf (spCs (l.take k)) rfl (by rw [vz,HK.out.2.2.2.2]) ?hn (Qo _) (by unfold maxLen;rw [qt];omega) (by rw [qt];omega) ?hB ?_;(case hB=>exact qi (qf HO.out g rfl).1 (yz (ql (qf HO.out g rfl).2 (qi H1.out.2.size H2.out.2.2.size))));(case hn=>intro j u hu;rw [Addr.add_lit,q9];have hq:=za (show w1.ownsRow w.heap.size 186 2 (.slice (some (Ad gf 0)) k cf) k (spCs (l.take k)) by have:=H1.out.1;unfold OwnS at this;rwa [HK.out.2.2.2.2] at this) j (by have:=(zn.1 hu).1;rwa [vz,HK.out.2.2.2.2] at this);rw [hu] at hq;exact (qz (H2.out.2.2.block gf (block_lt_of_cell hq) (fun q=>by have q:g=gf:=qq q;have:=(qf H1.out.1 gf rfl).1;have:=(qf HO.out g rfl).2;omega))).trans hq);intro v3 w3 ho3 hg3 _ hat3;have ho3:OwnS w3 B v3 (l.drop k++l.take k):=(by unfold OwnS;rw [qe,HK.out.2.2.2.2,spCs_app];exact ho3);obtain ⟨a3,n3,c3,rfl⟩:∃ a n c,v3=.slice a n c:=(by obtain ⟨a,c,e⟩:=ho3.form;exact ⟨_,_,_,e⟩);have R3:RowIs w3 b 118 7 (rep7 st cl top vW ss (.slice (some (Ad g 0)) l.length c)):=((HR.out.below H1.out.2 HR.out.lt).but H2.out.2.2 (fun q=>HK.out.2.2.2.1 (qq q))).but (X:=fun x=>v1.ownBlock=some x) ⟨hg3.size,hg3.os,hg3.tape,hg3.output,fun i hi hx=>hg3.block i hi fun e=>hx e.symm⟩ (fun q=>HK.out.2.2.2.1 (qq (H2.out.2.1.symm.trans q)));have c63:w3.cell? (Ad b 6)=some (.slice (some (Ad g 0)) l.length c):=R3.cell (j:=6) (by omega);have f63:=R3.free 6;have H3:=km (qd ho3 (qd hg3 (qd hat3 R3)));clear ho3 hg3 hat3 R3)))
 go_ret
 have hat:(Value.slice a3 n3 c3).ownBlock=some g∨(Value.slice a3 n3 c3).ownBlock=some w2.heap.size:=by
  rcases H3.out.2.2.1 with q | q
  ·exact Or.inl (q.trans H2.out.2.1)
  ·exact Or.inr q
 have s1:=H1.out.2.size;have s2:=H2.out.2.2.size;have gl:=qf HO.out g rfl;have gfl:=qf H1.out.1 gf rfl;have hbl:b < w.heap.size:=HR.out.lt
 have B13:But (fun x=>x=b∨some g=some x) w1 (w3.setCell (Ad b 6) (.slice a3 n3 c3)):=by
  have hg:=H3.out.2.1;have b3:But (fun x=>some g=some x) w2 w3:=⟨hg.size,hg.os,hg.tape,hg.output,fun i hi hx=>hg.block i hi fun e=>hx (H2.out.2.1.symm.trans e.symm)⟩;exact ((H2.out.2.2.mono fun x e=>Or.inr e).trans (b3.mono fun x e=>Or.inr e)).trans ((But.set b 6 _).mono fun x e=>Or.inl e)
 refine ⟨_,_,rfl,⟨?_,?_,rep_work H3.out.2.2.2 _,?_,?_,?_⟩⟩
 ·rw [HM.out.1];refine kp H1.out.1 fun x hx=>B13.block x (qf H1.out.1 x hx).2 ?_;have hx:gf=x:=qq hx;rintro (q | q)
  ·omega
  ·have:=qq q;omega
 ·rw [HM.out.1,HM.out.2];refine kp H3.out.1 fun x hx=>(But.set b 6 _).block x (qf H3.out.1 x hx).2 fun q=>?_;have q:x=b:=q;rcases hat with e | e
  ·rw [e] at hx;have:=qq hx;exact HK.out.2.2.2.1 (by omega)
  ·rw [e] at hx;have:=qq hx;omega
 ·rcases hat with e | e
  ·exact Or.inl e
  ·exact Or.inr ⟨_,e,by omega⟩
 ·exact (But.below H1.out.2).trans B13
 ·intro x hx;have hx:gf=x:=qq hx;rcases hat with e | e
  ·rw [e];intro q;have:=qq q;omega
  ·rw [e];intro q;have:=qq q;omega
theorem turn_nil (b:Nat) (st cl ss:Int) (top vW v:Value) (m B:Nat) (w:World) (hr:RowIs w b 118 7 (rep7 st cl top vW ss v)) (hO:OwnS w B v []) (hm:0 < m∧m≤1000) :
  Cs 112 #[(pt b 6),I6 m] w fun e w'=>∃ vf v',e=.returned vf∧TurnP w w' b st cl ss top vW v B [] m vf v':=by
 obtain ⟨io,hio,hz0,hz1,hz2⟩:=info_parts infoSp;have hmin:min (m:Int) 0=0:=by omega
 have hbl:b < w.heap.size:=hr.lt;rcases hO.2 with ⟨rfl,-⟩ | ⟨g,c,cur,rfl,hBg,-⟩
 ·have c6:w.cell? (Ad b 6)=some (.slice none 0 0):=hr.cell (j:=6) (by omega);have f6:=hr.free 6;have HCl:=km (cloneS_any [] none 0 w (Or.inl ⟨rfl,rfl,rfl⟩) (by decide));have HR:=km hr;clear hr hO;go_enter Tryz.func112,Tryz.ntmps112
  go_wp2_with (first
   | (go_at_call 192;refine HCl.out.mono ?_;rintro e w1 ⟨⟨vf,rfl,ho1,hn1,-⟩,hb1⟩;obtain rfl:=hn1 rfl;have c61:w1.cell? (Ad b 6)=some (.slice none 0 0):=(hb1.cell (block_lt_of_cell c6)).trans c6;have f61:=(HR.out.below hb1 HR.out.lt).free 6;have H1:=km hb1;clear ho1 hn1 hb1)
   | (go_at_call 193;refine (delS_same 0 0 none 0 w1 (qb _) (qb _)).mono ?_;rintro e w2 ⟨rfl,hw2⟩;obtain rfl:=hw2.symm)
   | (at_builtin;refine wpList_append_own_none rfl (.tmp 24) (.tmp 25) 114 rfl B 186 io 2 Tryz.underlying114 hio (.slice none 0 0) 0 [] rfl ⟨rfl,Or.inl ⟨rfl,rfl⟩⟩ rfl ?_))
  go_ret;have R1:=HR.out.below H1.out HR.out.lt;exact ⟨_,_,rfl,⟨by rw [List.take_nil];exact ownS_nil _ _,by rw [List.take_nil,List.drop_nil];exact ownS_nil _ _,rep_work R1 _,Or.inl rfl,(But.below H1.out).trans ((But.set b 6 _).mono fun x e=>Or.inl e),fun g e=>by cases e⟩⟩
 ·have hne:g≠b:=fun e=>hO.notRow hr (by rw [e];rfl);have c6:w.cell? (Ad b 6)=some (.slice (some (Ad g 0)) 0 c):=hr.cell (j:=6) (by omega);have f6:=hr.free 6;have HCl:=km (cloneS_any [] (some (Ad g 0)) c w (Or.inr ⟨g,rfl,qs _,fun j u hu=>by simp [spCs] at hu⟩) (by decide));have HR:=km hr;have HO:=km hO;have hcz:(0:Int)≤(c:Int):=by omega
  have HN:=km hne;clear hr hO hne;go_enter Tryz.func112,Tryz.ntmps112
  go_wp2_with (first
   | (go_at_call 192;refine HCl.out.mono ?_;rintro e w1 ⟨⟨vf,rfl,ho1,-,hn1⟩,hb1⟩;obtain ⟨gf,hgf⟩:=hn1 (by simp);obtain ⟨cf,rfl⟩:∃ cf,vf=.slice (some (Ad gf 0)) 0 cf:=ho1.at' hgf;have c61:w1.cell? (Ad b 6)=some (.slice (some (Ad g 0)) 0 c):=(hb1.cell (block_lt_of_cell c6)).trans c6;have H1:=km (qd ho1 hb1);clear ho1 hn1 hb1 hgf)
   | (go_at_call 193;refine (delS_same 0 c (some (Ad g 0)) 0 w1 (qb _) (qs _)).mono ?_;rintro e w2 ⟨rfl,hw2⟩;obtain rfl:=hw2.symm)
   | (at_builtin;refine wpList_append_own_at _ rfl (.tmp 24) (.tmp 25) 114 rfl B 186 io (.agg #[U6 0,U6 0]) 2 16 Tryz.underlying114 hio hz0 hz1 hz2 rfl (by decide) (.slice (some (Ad g 0)) 0 c) 0 [] rfl (HO.out.keep H1.out.2) (Ad gf 0) 0 cf [] rfl rfl (fun j u hu=>by simp at hu) (fun u hu=>by cases hu) (by unfold maxLen;omega) (by omega) (qi hBg (yz (ql (qf HO.out g rfl).2 H1.out.2.size))) ?_;intro v3 w3 ho3 hg3 _ hat3;have ho3:OwnS w3 B v3 []:=ho3;obtain ⟨a3,n3,c3,rfl⟩:∃ a n c,v3=.slice a n c:=(by obtain ⟨a,c,e⟩:=ho3.form;exact ⟨_,_,_,e⟩);have R3:RowIs w3 b 118 7 (rep7 st cl top vW ss (.slice (some (Ad g 0)) 0 c)):=(HR.out.below H1.out.2 HR.out.lt).but (X:=fun x=>some g=some x) ⟨hg3.size,hg3.os,hg3.tape,hg3.output,fun i hi hx=>hg3.block i hi fun e=>hx e.symm⟩ (fun q=>HN.out (qq q));have c63:w3.cell? (Ad b 6)=some (.slice (some (Ad g 0)) 0 c):=R3.cell (j:=6) (by omega);have f63:=R3.free 6;have H3:=km (qd ho3 (qd hg3 (qd hat3 R3)));clear ho3 hg3 hat3 R3))
  go_ret;have s1:=H1.out.2.size;have gl:=qf HO.out g rfl;have gfl:=qf H1.out.1 gf rfl
  have B13:But (fun x=>x=b∨some g=some x) w1 (w3.setCell (Ad b 6) (.slice a3 n3 c3)):=by
   have hg:=H3.out.2.1;have b3:But (fun x=>some g=some x) w1 w3:=⟨hg.size,hg.os,hg.tape,hg.output,fun i hi hx=>hg.block i hi fun e=>hx e.symm⟩;exact (b3.mono fun x e=>Or.inr e).trans ((But.set b 6 _).mono fun x e=>Or.inl e)
  have hat:(Value.slice a3 n3 c3).ownBlock=some g∨(Value.slice a3 n3 c3).ownBlock=some w1.heap.size:=H3.out.2.2.1;refine ⟨_,rfl,_,⟨?_,?_,rep_work H3.out.2.2.2 _,?_,(But.below H1.out.2).trans B13,?_⟩⟩
  ·rw [List.take_nil];refine kp H1.out.1 fun x hx=>B13.block x (qf H1.out.1 x hx).2 ?_;have hx:gf=x:=qq hx;rintro (q | q)
   ·omega
   ·have:=qq q;omega
  ·rw [List.take_nil,List.drop_nil];refine kp H3.out.1 fun x hx=>(But.set b 6 _).block x (qf H3.out.1 x hx).2 fun q=>?_;have q:x=b:=q;rcases hat with e | e
   ·rw [e] at hx;have:=qq hx;exact HN.out (by omega)
   ·rw [e] at hx;have:=qq hx;omega
  ·rcases hat with e | e
   ·exact Or.inl e
   ·exact Or.inr ⟨_,e,by omega⟩
  ·intro x hx;have hx:gf=x:=qq hx;rcases hat with e | e
   ·rw [e];intro q;have:=qq q;omega
   ·rw [e];intro q;have:=qq q;omega
theorem turn_any (b:Nat) (st cl ss:Int) (top vW v:Value) (l:List Sp) (m B:Nat) (w:World) (hr:RowIs w b 118 7 (rep7 st cl top vW ss v)) (hO:OwnS w B v l) (hl:l.length≤1000000) (hm:0 < m∧m≤1000) :
  Cs 112 #[(pt b 6),I6 m] w fun e w'=>∃ vf v',e=.returned vf∧TurnP w w' b st cl ss top vW v B l m vf v':=by
 rcases Nat.eq_zero_or_pos l.length with q | q
 ·obtain rfl:=zy.1 q;exact turn_nil b st cl ss top vW v m B w hr hO hm
 ·exact turn_some b st cl ss top vW v l m B w hr hO hl q hm
def wholeS:Sp:=⟨0,1099511627776⟩
def endL (l:List Sp) (i:Nat):List Sp:=haveI:=dS;if l.length=1∧¬ l[i]?=some wholeS then [wholeS] else l.take i++l.drop (i+1)
def WorkP (w w':World) (b:Nat) (st cl ss:Int) (top vW v:Value) (B:Nat) (l':List Sp):Prop:=∃ v',OwnS w' B v' l'∧RowIs w' b 118 7 (rep7 st cl top vW ss v')∧(v'.ownBlock=v.ownBlock∨∃ g,v'.ownBlock=some g∧w.heap.size≤g)∧But (fun x=>x=b∨v.ownBlock=some x) w w'
theorem ownS_one (w:World) (B:Nat) (s:Sp) (hB:B≤w.heap.size):OwnS (w.alloc (.cells #[U6 s.lo,U6 s.hi] 186)) B (.slice (some (Ad w.heap.size 0)) 1 1) [s]:=
 ⟨rfl,Or.inr ⟨w.heap.size,1,_,rfl,hB,heap_alloc_new _ _,qb _,by unfold maxLen;omega,rfl,rfl⟩⟩
theorem stored {w w2:World} {st:Int} {top v1:Value} {l':List Sp} (hv:v.ownBlock=some g) (hne:g≠b) (R:RowIs w2 b 118 7 (rep7 st cl top vW ss v)) (ho:OwnS w2 B v1 l') (hv1:v1.ownBlock=some g) (hb:But (fun x=>x=b∨v.ownBlock=some x) w w2):WorkP w (w2.setCell (Ad b 6) v1) b st cl ss top vW v B l':=
 ⟨v1,kp ho fun x hx=>(But.set b 6 _).block x (qf ho x hx).2 (fun q=>by rw [hv1] at hx;have:=qq hx;have q:x=b:=q;omega),rep_work R _,Or.inl (hv1.trans hv.symm),hb.trans ((But.set b 6 _).mono fun x e=>Or.inl e)⟩
theorem end_any (b:Nat) (st cl ss:Int) (top vW v:Value) (l:List Sp) (at' B:Nat) (w:World) (hr:RowIs w b 118 7 (rep7 st cl top vW ss v)) (hO:OwnS w B v l) (hl:l.length≤1000000) (hat:at' < l.length) :
  Cs 200 #[(pt b 6),I6 at'] w fun e w'=>e=.returned (.tuple #[])∧WorkP w w' b st cl ss top vW v B (endL l at'):=by
 obtain ⟨io,hio,hz0,hz1,hz2⟩:=info_parts infoSp;obtain ⟨a,c,rfl⟩:=hO.form;obtain ⟨g,rfl⟩:=hO.ptr (by omega);have hne:g≠b:=fun e=>hO.notRow hr (by rw [e];rfl);have la:(at':Int) < (l.length:Int):=by omega
 have e1:IntKind.i64.wrap ((at':Int)+1)=((at'+1:Nat):Int):=by
  unfold IntKind.wrap;simp [IntKind.bits,IntKind.signed];omega
 have hBw:B≤w.heap.size:=qi (qf hO g rfl).1 (yz (qf hO g rfl).2);have HR:=km hr;have HO:=km hO;have HN:=km (qd hne hBw);have hlen:(l.take at'++l.drop (at'+1)).length=l.length-1:=by rw [qe,qm,qt];omega
 have HLn:=km hlen;clear hr hO hne hBw hlen;go_enter Tryz.func200,Tryz.ntmps200;go_wp2_with fail;refine wp_region_held_drew (S:=fun W=>RowIs W b 118 7 (rep7 st cl top vW ss (.slice (some (Ad g 0)) l.length c))∧OwnS W B (.slice (some (Ad g 0)) l.length c) l) (by kernel_rfl) (⟨HR.out.drew,HO.out.keep (qj _ _).drew⟩) (fun hHeld=>?_);have HB:Hid (Bel w (World.drew w)):=km (qj _ _).drew;generalize World.drew w=wD at hHeld HB ⊢;refine ks 0 5 ?_;refine ks 1 6 ?_;refine x9 2 7 (fun W h=>show W.cell? (Ad b 6)=some (.slice (some (Ad g 0)) l.length c) from h.1.cell (j:=6) (by omega)) ?_;refine ks 3 8 ?_;refine ks 4 9 ?_;refine x9 5 10 (fun W h=>h.2.cells hat) ?_;refine rd 6 (some 11) rfl (fun K hK=>?_);go_simp;refine (whole_any _).mono ?_;rintro e w1 ⟨rfl,hb1⟩;have HB:=km (HB.out.trans (hb1.mono HB.out.size));refine hK.out _ _ ⟨hHeld.1.below hb1 hHeld.1.lt,hHeld.2.keep hb1⟩ (fun hHeld=>?_);clear hK K hb1;by_cases hw:l[at'].lo=0∧l[at'].hi=1099511627776
 ·refine tk 7 12 (v:=.bool true) rfl (Or.inl ⟨by rfl,fun w _=>by obtain ⟨q1,q2⟩:=hw;go_simp⟩) hHeld ?_;simp only [Act.put,Qc,Qb,Qa];refine rdg 8 (some 4) ?_;refine xy ?_;have HH:=km hHeld;clear hHeld HR HO;have HW:=km hw;clear hw;have c61:w1.cell? (Ad b 6)=some (.slice (some (Ad g 0)) l.length c):=HH.out.1.cell (j:=6) (by omega);by_cases hl1:l.length=1
  ·have HL1:=km hl1;clear hl1;go_wp2_with (go_at_call 193;refine (delS_any B at' (at'+1) _ l _ HH.out.2 (by omega) (by omega)).mono ?_;rintro e w2 ⟨v1,rfl,ho2,hv2,hb2⟩;obtain ⟨a3,n3,c3,hv3,hn3⟩:∃ a n c,v1=.slice a n c∧n=l.length-1:=(by obtain ⟨a,c,e⟩:=ho2.form;exact ⟨_,_,_,e,HLn.out⟩);subst hv3;obtain rfl:n3=0:=(by have:=HL1.out;omega);clear hn3;have R2:RowIs w2 b 118 7 (rep7 st cl top vW ss (.slice (some (Ad g 0)) l.length c)):=HH.out.1.but hb2 (fun q=>HN.out.1 (qq q));have c62:w2.cell? (Ad b 6)=some (.slice (some (Ad g 0)) l.length c):=R2.cell (j:=6) (by omega);have f62:=R2.free 6;have H2:=km (qd ho2 (qd hv2 (qd hb2 R2)));clear ho2 hv2 hb2 R2);go_end0;have hE:endL l at'=l.take at'++l.drop (at'+1):=by unfold endL;rw [if_neg (fun q=>q.2 (by rw [qk hat];congr 1;exact Sp.ext' HW.out.1 HW.out.2))]
   exact ⟨rfl,stored rfl HN.out.1 H2.out.2.2.2 (by rw [hE];exact H2.out.1) H2.out.2.1 ((But.below HB.out).trans (H2.out.2.2.1.mono fun x e=>Or.inr e))⟩
  ·have HL1:=km hl1;clear hl1;go_wp2_with (go_at_call 193;refine (delS_any B at' (at'+1) _ l _ HH.out.2 (by omega) (by omega)).mono ?_;rintro e w2 ⟨v1,rfl,ho2,hv2,hb2⟩;obtain ⟨a3,n3,c3,hv3,hn3⟩:∃ a n c,v1=.slice a n c∧n=l.length-1:=(by obtain ⟨a,c,e⟩:=ho2.form;exact ⟨_,_,_,e,HLn.out⟩);subst hv3;have n30:¬ (n3:Int)=0:=(by have:=HL1.out;omega);clear hn3;have R2:RowIs w2 b 118 7 (rep7 st cl top vW ss (.slice (some (Ad g 0)) l.length c)):=HH.out.1.but hb2 (fun q=>HN.out.1 (qq q));have c62:w2.cell? (Ad b 6)=some (.slice (some (Ad g 0)) l.length c):=R2.cell (j:=6) (by omega);have f62:=R2.free 6;have H2:=km (qd ho2 (qd hv2 (qd hb2 R2)));clear ho2 hv2 hb2 R2);go_end0;have hE:endL l at'=l.take at'++l.drop (at'+1):=by unfold endL;rw [if_neg (fun q=>HL1.out q.1)]
   exact ⟨rfl,stored rfl HN.out.1 H2.out.2.2.2 (by rw [hE];exact H2.out.1) H2.out.2.1 ((But.below HB.out).trans (H2.out.2.2.1.mono fun x e=>Or.inr e))⟩
 ·refine tk 7 12 (v:=.bool false) rfl (Or.inl ⟨by rfl,fun w _=>by go_simp;exact fun h1 h2=>hw ⟨h1,h2⟩⟩) hHeld ?_;simp only [Act.put,Qc,Qb,Qa];refine rdg 8 (some 4) ?_;refine xy ?_;have HH:=km hHeld;clear hHeld HR HO;have HW:=km hw;clear hw;have c61:w1.cell? (Ad b 6)=some (.slice (some (Ad g 0)) l.length c):=HH.out.1.cell (j:=6) (by omega);by_cases hl1:l.length=1
  ·have HL1:=km hl1;clear hl1;go_wp2_with (first | (go_at_call 193;refine (delS_any B at' (at'+1) _ l _ HH.out.2 (by omega) (by omega)).mono ?_;rintro e w2 ⟨v1,rfl,ho2,hv2,hb2⟩;obtain ⟨a3,n3,c3,hv3,hn3⟩:∃ a n c,v1=.slice a n c∧n=l.length-1:=(by obtain ⟨a,c,e⟩:=ho2.form;exact ⟨_,_,_,e,HLn.out⟩);subst hv3;obtain rfl:n3=0:=(by have:=HL1.out;omega);clear hn3;have R2:RowIs w2 b 118 7 (rep7 st cl top vW ss (.slice (some (Ad g 0)) l.length c)):=HH.out.1.but hb2 (fun q=>HN.out.1 (qq q));have c62:w2.cell? (Ad b 6)=some (.slice (some (Ad g 0)) l.length c):=R2.cell (j:=6) (by omega);have f62:=R2.free 6;have H2:=km (qd ho2 (qd hv2 (qd hb2 R2)));clear ho2 hv2 hb2 R2) | (go_at_call 111;refine (whole_any _).mono ?_;rintro e w4 ⟨rfl,hb4⟩;have R4:=((rep_work H2.out.2.2.2 (.slice a3 0 c3)).below hb4 (rep_work H2.out.2.2.2 (.slice a3 0 c3)).lt).alloc (.cells #[U6 0,U6 1099511627776] 186);have c64:(w4.alloc (.cells #[U6 0,U6 1099511627776] 186)).cell? (Ad b 6)=some (.slice a3 0 c3):=R4.cell (j:=6) (by omega);have f64:=R4.free 6;have H4:=km (qd hb4 R4);clear hb4 R4));go_end0;have hE:endL l at'=[wholeS]:=by unfold endL;rw [if_pos ⟨HL1.out,fun q=>HW.out (by rw [qk hat] at q;have q:=qq q;rw [q];exact ⟨rfl,rfl⟩)⟩]
   have s1:=HB.out.size;have s2:=H2.out.2.2.1.size;have s4:w2.heap.size≤w4.heap.size:=qi (Nat.le_of_eq (by simp)) H4.out.1.size;have hbl:b < w2.heap.size:=H2.out.2.2.2.lt;refine ⟨rfl,.slice (some (Ad w4.heap.size 0)) 1 1,?_,rep_work H4.out.2 _,Or.inr ⟨w4.heap.size,rfl,by omega⟩,?_⟩
   ·rw [hE];refine kp (ownS_one w4 B wholeS (by have:=HN.out.2;omega)) fun x hx=>(But.set b 6 _).block x (qf (ownS_one w4 B wholeS (by have:=HN.out.2;omega)) x hx).2 fun q=>?_;have hx:w4.heap.size=x:=qq hx;have q:x=b:=q;omega
   ·have b1:=(But.below HB.out).trans (H2.out.2.2.1.mono fun x (e:(Value.slice (some (Ad g 0)) l.length c).ownBlock=some x)=>(Or.inr e:x=b∨_));exact ((b1.trans ((But.set b 6 _).mono fun x e=>Or.inl e)).trans (But.below (H4.out.1.trans ((kq w4 _).mono H4.out.1.size)))).trans ((But.set b 6 _).mono fun x e=>Or.inl e)
  ·have HL1:=km hl1;clear hl1;go_wp2_with (go_at_call 193;refine (delS_any B at' (at'+1) _ l _ HH.out.2 (by omega) (by omega)).mono ?_;rintro e w2 ⟨v1,rfl,ho2,hv2,hb2⟩;obtain ⟨a3,n3,c3,hv3,hn3⟩:∃ a n c,v1=.slice a n c∧n=l.length-1:=(by obtain ⟨a,c,e⟩:=ho2.form;exact ⟨_,_,_,e,HLn.out⟩);subst hv3;have n30:¬ (n3:Int)=0:=(by have:=HL1.out;omega);clear hn3;have R2:RowIs w2 b 118 7 (rep7 st cl top vW ss (.slice (some (Ad g 0)) l.length c)):=HH.out.1.but hb2 (fun q=>HN.out.1 (qq q));have c62:w2.cell? (Ad b 6)=some (.slice (some (Ad g 0)) l.length c):=R2.cell (j:=6) (by omega);have f62:=R2.free 6;have H2:=km (qd ho2 (qd hv2 (qd hb2 R2)));clear ho2 hv2 hb2 R2);go_end0;have hE:endL l at'=l.take at'++l.drop (at'+1):=by unfold endL;rw [if_neg (fun q=>HL1.out q.1)]
   exact ⟨rfl,stored rfl HN.out.1 H2.out.2.2.2 (by rw [hE];exact H2.out.1) H2.out.2.1 ((But.below HB.out).trans (H2.out.2.2.1.mono fun x e=>Or.inr e))⟩
def emp (s:Sp):Bool:=s.lo==s.hi
theorem OwnS.at0 {w:World} {l:List Sp} (h:OwnS w B (.slice (some (Ad g 0)) n cap) l):n=l.length∧n≤cap:=by
 rcases h.2 with ⟨e,-⟩ | ⟨g',cap',cur,e,-,-,q,-⟩
 ·cases e
 ·simp only [Value.slice.injEq] at e;obtain ⟨-,e2,e3⟩:=e;omega
theorem ixfS_any (g cap B:Nat) (l:List Sp) (w:World) (hO:OwnS w B (.slice (some (Ad g 0)) l.length cap) l) (hn:l.length≤1000000) :
  Cs 287 #[.slice (some (Ad g 0)) l.length cap,.func (.func 257) #[] #[]] w fun e w'=>((∃ i,∃ h:i < l.length,emp l[i]=true∧(∀ j (hj:j < i),emp l[j]=false)∧e=.returned (I6 i))∨((∀ x∈l,emp x=false)∧e=.returned (I6 (-1))))∧Bel w w':=by
 have HO:=km hO;clear hO;go_enter Tryz.func287,Tryz.ntmps287;go_wp2_with fail;go_loopw [8] (fun iv wr=>∃ i:Nat,i≤l.length∧iv=I6 i∧Hid (Bel w wr)∧Hid (∀ k (hk:k < l.length),k < i→emp l[k]=false)) (fun iv _=>l.length-(intOf iv).toNat)
 case atStart=>exact ⟨0,qs _,rfl,qj _ _,fun k _ h=>absurd h (yl _)⟩
 case round=>
  obtain ⟨i,hi,rfl,HB,I⟩:=hrel;by_cases hlt:i < l.length
  ·have li:(i:Int) < (l.length:Int):=by omega
   obtain ⟨c0,c1⟩:=(HO.out.keep HB.out).cells hlt;have hI:∀ P,emp l[i]=P→Hid (Cs 257 #[.agg #[U6 l[i].lo,U6 l[i].hi]] wr fun e w'=>e=.returned (.bool P)∧Bel wr w'):=fun P e=>by subst e;exact isEmpty_any l[i] wr
   cases he:emp l[i] with
   | false=>
    have HI:=hI false he;have HE:=km he;clear hI he;go_wp2_with (go_at_call 257;refine HI.out.mono ?_;rintro e w1 ⟨rfl,hb1⟩);go_roundw
    case rel=>exact ⟨i+1,hlt,by go_num,HB.out.trans (hb1.mono HB.out.size),fun k hk hk'=>by
     rcases zr k i with q | q
     ·exact I.out k hk q
     ·obtain rfl:k=i:=by omega
      exact HE.out⟩
    case measure=>simp [intOf];omega
   | true=>
    have HI:=hI true he;have HE:=km he;clear hI he;go_wp2_with (go_at_call 257;refine HI.out.mono ?_;rintro e w1 ⟨rfl,hb1⟩);go_ret;exact ⟨Or.inl ⟨i,hlt,HE.out,fun j hj=>I.out j (by omega) hj,rfl⟩,HB.out.trans (hb1.mono HB.out.size)⟩
  ·have li:¬ (i:Int) < (l.length:Int):=by omega
   go_wp2_with fail;go_ret;exact ⟨Or.inr ⟨fun x hx=>by obtain ⟨k,hk,rfl⟩:=qw.1 hx;exact I.out k hk (by omega),rfl⟩,HB.out⟩
theorem run_clear_sl (w:World) (ty:TypeId) (g k m c:Nat) (hc:∀ j,j < m*2→(w.cell? ⟨g,k+j,none⟩).isSome=true) (hf:∀ j,j < m*2→w.frozen? ⟨g,k+j,none⟩=false) :
  (Builtin.clear_ #[113] ty #[.slice (some (Ad g k)) m c]).run Tryz.prog w=.ok (.tuple #[]) (w.setCells g k (zsp m)):=by
 have hl:(zsp m).length=m*2:=by unfold zsp;rw [yc]
 have hst:=run_storeCells_cells (P:=Tryz.prog) g k (zsp m) 0 w (by rw [hl];simpa using hc) (by rw [hl];simpa using hf) (by intro v hv;rw [List.eq_of_mem_replicate hv];rfl);simp only [y8] at hst
 cases m with
 | zero=>simp [Builtin.clear_,run_underlying Tryz.underlying113,zsp];rfl
 | succ m=>simp [Builtin.clear_,run_underlying Tryz.underlying113,Tryz.zeroValue186,zsp_cells,hst]
structure DfS (w W:World) (g cap B:Nat) (l M:List Sp) (ii jj:Nat):Prop where
 own:OwnS W B (.slice (some (Ad g 0)) l.length cap) M
 len:M.length=l.length
 pre:M.take ii=(l.take jj).filter fun s=>!emp s
 post:M.drop jj=l.drop jj
 le:ii < jj∧jj≤l.length
 but:But (fun x=>some g=some x) w W
theorem DfS.below {w W W':World} {l M:List Sp} (h:DfS w W g cap B l M ii jj) (hb:Bel W W'):DfS w W' g cap B l M ii jj:=
 ⟨h.own.keep hb,h.len,h.pre,h.post,h.le,h.but.trans (But.below hb)⟩
theorem filt_step {l:List Sp} (h:jj < l.length):(l.take (jj+1)).filter (fun s=>!emp s)=(l.take jj).filter (fun s=>!emp s)++if emp l[jj] then [] else [l[jj]]:=by
 rw [zk h,zt];congr 1;cases he:emp l[jj] <;> simp [he]
theorem DfS.skip {w W:World} {l M:List Sp} (h:DfS w W g cap B l M ii jj) (hj:jj < l.length) (he:emp l[jj]=true):DfS w W g cap B l M ii (jj+1):=
 ⟨h.own,h.len,by rw [filt_step hj,he,h.pre];simp,by rw [← yt,← yt,h.post],⟨by have:=h.le;omega,hj⟩,h.but⟩
theorem DfS.at' {w W:World} {l M:List Sp} (h:DfS w W g cap B l M ii jj) (hj:jj < l.length):∃ h':jj < M.length,M[jj]=l[jj]:=by
 have h':jj < M.length:=by rw [h.len];exact hj
 refine ⟨h',?_⟩;have:=congrArg (fun x=>x[0]?) h.post;simp only [ju,y8] at this;rw [qk h',qk hj] at this;exact qq this
theorem spCs_set:∀ (l:List Sp) {i:Nat} (_:i < l.length) (s:Sp),spCs (l.set i s)=(spCs l).take (i*2)++[U6 s.lo,U6 s.hi]++(spCs l).drop (i*2+2)
 | [],i,hi,_=>by cases hi
 | x::l,0,_,s=>rfl
 | x::l,i+1,hi,s=>by
  have:=spCs_set l (i:=i) (by simpa using hi) s;rw [qg,spCs,this,show (i+1)*2=i*2+2 by omega];simp [spCs]
theorem DfS.put {w W:World} {l M:List Sp} (h:DfS w W g cap B l M ii jj) (hj:jj < l.length) (he:emp l[jj]=false):DfS w ((W.setCell ⟨g,ii*2,none⟩ (U6 l[jj].lo)).setCell ⟨g,ii*2+1,none⟩ (U6 l[jj].hi)) g cap B l (M.set ii l[jj]) (ii+1) (jj+1):=by
 have hle:=h.le;have hM:=h.len;refine ⟨?_,by rw [ym];exact hM,?_,?_,⟨by omega,hj⟩,?_⟩
 ·have ho:=h.own;unfold OwnS at ho ⊢;rw [ym];rw [hM] at ho ⊢;have:=ve [U6 l[jj].lo,U6 l[jj].hi] (ii*2) W _ ho (by rw [vz,hM];simp;omega);rw [spCs_set M (by omega)];exact this
 ·rw [filt_step hj,he,← h.pre];have:ii < (M.set ii l[jj]).length:=by rw [ym];omega
  rw [zk this,List.take_set_of_le (qb _),List.getElem_set_self];rfl
 ·rw [List.drop_set_of_lt (by omega),← yt,← yt,h.post]
 ·exact (h.but.setCell (Or.inl rfl) _).setCell (Or.inl rfl) _
theorem DfS.fin {w W:World} {l M:List Sp} (h:DfS w W g cap B l M ii l.length):OwnS (W.setCells g (ii*2) (zsp (l.length-ii))) B (.slice (some (Ad g 0)) ii cap) (l.filter fun s=>!emp s)∧But (fun x=>some g=some x) w (W.setCells g (ii*2) (zsp (l.length-ii))):=by
 have hle:=h.le;have hM:=h.len;have hz:(zsp (l.length-ii)).length=(l.length-ii)*2:=by unfold zsp;rw [yc]
 have ho:=h.own;unfold OwnS at ho;rw [hM] at ho;have h1:=ve (zsp (l.length-ii)) (ii*2) W _ ho (by rw [vz,hM,hz];omega);have h2:=own_shorter h1 (yz hle.1);have e:(l.filter fun s=>!emp s)=M.take ii:=by have:=h.pre;rw [ja (qb _)] at this;exact this.symm
 refine ⟨?_,vy (X:=fun x=>some g=some x) rfl _ _ _ h.but⟩;have hl2:(M.take ii).length=ii:=by rw [qm];omega
 rw [e];unfold OwnS;rw [hl2,← spCs_take];have hl:((spCs M).take (ii*2)).length=ii*2:=by rw [qm,vz,hM];omega
 rwa [qr,j8 hl] at h2
theorem ix_form {l:List Sp} {e:Ending} (h:(∃ i,∃ h:i < l.length,emp l[i]=true∧(∀ j (hj:j < i),emp l[j]=false)∧e=.returned (I6 i))∨((∀ x∈l,emp x=false)∧e=.returned (I6 (-1)))):∃ x:Int,e=.returned (I6 x)∧((∃ i:Nat,x=i∧∃ h:i < l.length,emp l[i]=true∧∀ j (hj:j < i),emp l[j]=false)∨(x=-1∧∀ x∈l,emp x=false)):=by
 rcases h with ⟨i,h,a,b,c⟩ | ⟨a,c⟩
 ·exact ⟨i,c,Or.inl ⟨i,rfl,h,a,b⟩⟩
 ·exact ⟨-1,c,Or.inr ⟨rfl,a⟩⟩
theorem DfS.start {w w1:World} {l:List Sp} (hO:OwnS w B (.slice (some (Ad g 0)) l.length cap) l) (hb:Bel w w1) (hi:i < l.length) (he:emp l[i]=true) (hb4:∀ j (hj:j < i),emp l[j]=false):DfS w w1 g cap B l l i (i+1):=by
 refine ⟨hO.keep hb,rfl,?_,rfl,⟨by omega,hi⟩,But.below hb⟩;rw [filt_step hi,he];simp only [if_true,jd];refine (je.2 fun x hx=>?_).symm;obtain ⟨j,hj,rfl⟩:=qw.1 hx;rw [qm] at hj;rw [jq,hb4 j (by omega)];rfl
theorem delFuncS_any (g cap B:Nat) (l:List Sp) (w:World) (hO:OwnS w B (.slice (some (Ad g 0)) l.length cap) l) (hn:l.length≤1000000) :
  Cs 256 #[.slice (some (Ad g 0)) l.length cap,.func (.func 257) #[] #[]] w fun e w'=>∃ n,e=.returned (.slice (some (Ad g 0)) n cap)∧OwnS w' B (.slice (some (Ad g 0)) n cap) (l.filter fun s=>!emp s)∧But (fun x=>some g=some x) w w':=by
 have HO:=km hO;have hcap:=hO.at0.2;clear hO;go_enter Tryz.func256,Tryz.ntmps256;go_upto_if 12 with (go_at_call 287;refine (ixfS_any g cap B l w HO.out hn).mono ?_;rintro e w1 ⟨hi,hb1⟩;obtain ⟨x,rfl,hx⟩:=ix_form hi;have HI:=km (qd hx hb1);clear hi hx hb1)
 rcases HI.out.1 with ⟨i,rfl,hi,he,hb4⟩ | ⟨rfl,hall⟩
 ·have H0:=km (DfS.start HO.out HI.out.2 hi he hb4);have n1:¬ (i:Int)=-1:=by omega
  have e1:IntKind.i64.wrap ((i:Int)+1)=((i+1:Nat):Int):=by
   unfold IntKind.wrap;simp [IntKind.bits,IntKind.signed];omega
  clear HI he hb4;go_wp2_with fail;clear n1 e1;generalize ((i:Int)==-1)=d12;go_loopw [5,6] (fun iv jv wr=>∃ (ii jj:Nat) (M:List Sp),jj≤l.length∧ii < jj∧iv=I6 ii∧jv=I6 jj∧Hid (DfS w wr g cap B l M ii jj)) (fun _ jv _=>l.length-(intOf jv).toNat)
  case atStart=>exact ⟨i,i+1,l,hi,Nat.lt_succ_self _,rfl,rfl,H0⟩
  case round=>
   obtain ⟨ii,jj,M,hjl,hij,rfl,rfl,HD⟩:=hrel;clear H0;by_cases hlt:jj < l.length
   ·have lj:(jj:Int) < (l.length:Int):=by omega
    have lii:(ii:Int) < (l.length:Int):=by omega
    obtain ⟨hm,em⟩:=HD.out.at' hlt;obtain ⟨c0,c1⟩:=HD.out.own.cells hm;rw [em] at c0 c1;clear em hm;have hI:∀ P,emp l[jj]=P→Hid (Cs 257 #[.agg #[U6 l[jj].lo,U6 l[jj].hi]] (wr.alloc (.cells #[U6 l[jj].lo,U6 l[jj].hi] 186)) fun e w'=>e=.returned (.bool P)∧Below (wr.alloc (.cells #[U6 l[jj].lo,U6 l[jj].hi] 186)).heap.size (wr.alloc (.cells #[U6 l[jj].lo,U6 l[jj].hi] 186)) w'):=fun P e=>by subst e;exact isEmpty_any l[jj] _
    have HD1:=km (HD.out.below (kq wr (.cells #[U6 l[jj].lo,U6 l[jj].hi] 186)));have HB:Hid (RowIs (wr.alloc (.cells #[U6 l[jj].lo,U6 l[jj].hi] 186)) wr.heap.size 186 2 (fun j=>if j=0 then U6 l[jj].lo else U6 l[jj].hi)):=RowIs.last rfl rfl
    cases he:emp l[jj] with
    | true=>
     have HI:=hI true he;have HE:=km he;clear hI he;go_wp2_with (go_at_call 257;refine HI.out.mono ?_;rintro e w2 ⟨rfl,hb2⟩;have H2:=km (HD1.out.below hb2);clear hb2);go_roundw
     case rel=>exact ⟨ii,jj+1,M,hlt,by omega,rfl,by go_num,km (H2.out.skip hlt HE.out)⟩
     case measure=>simp [intOf];omega
    | false=>
     have HI:=hI false he;have HE:=km he;clear hI he;go_wp2_with (go_at_call 257;refine HI.out.mono ?_;rintro e w2 ⟨rfl,hb2⟩;have H2:=km (HD1.out.below hb2);have R2:=HB.out.below hb2 HB.out.lt;have b0:w2.cell? (Ad wr.heap.size 0)=some (U6 l[jj].lo):=R2.cell (j:=0) (by omega);have b1:w2.cell? (Ad wr.heap.size 1)=some (U6 l[jj].hi):=R2.cell (j:=1) (by omega);have hii:ii < M.length:=(by rw [H2.out.len];omega);obtain ⟨d0,d1⟩:=H2.out.own.cells hii;have f0:w2.frozen? ⟨g,ii*2,none⟩=false:=zq (show w2.ownsRow B 186 2 (.slice (some (Ad g 0)) l.length cap) l.length (spCs M) by have:=H2.out.own;unfold OwnS at this;rwa [H2.out.len] at this) _;have f1:w2.frozen? ⟨g,ii*2+1,none⟩=false:=zq (show w2.ownsRow B 186 2 (.slice (some (Ad g 0)) l.length cap) l.length (spCs M) by have:=H2.out.own;unfold OwnS at this;rwa [H2.out.len] at this) _;clear hb2 R2);go_roundw
     case rel=>exact ⟨ii+1,jj+1,_,hlt,by omega,by go_num,by go_num,km (H2.out.put hlt HE.out)⟩
     case measure=>simp [intOf];omega
   ·obtain rfl:jj=l.length:=by omega
    have hic:¬ cap=ii:=by omega
    have iic:ii≤cap:=by omega
    have hcl:∀ ty,(Builtin.clear_ #[113] ty #[.slice (some ⟨g,ii*2,none⟩) (l.length-ii) (cap-ii)]).run Tryz.prog wr=.ok (.tuple #[]) (wr.setCells g (ii*2) (zsp (l.length-ii))):=fun ty=>by
     have ho:=HD.out.own;unfold OwnS at ho;rw [HD.out.len] at ho;refine run_clear_sl wr ty g (ii*2) (l.length-ii) _ (fun k hk=>?_) fun k _=>zq ho _;rw [za ho _ (by omega),qk (by rw [ho.1];omega)];rfl
    go_wp2_with fail;go_ret;exact ⟨_,rfl,HD.out.fin⟩
 ·have HA:=km (qd hall HI.out.2);clear HI hall;go_wp2_with fail;go_ret;refine ⟨_,rfl,?_,But.below HA.out.2⟩;rw [je.2 fun x hx=>by rw [HA.out.1 x hx];rfl];exact HO.out.keep HA.out.2
theorem app_ty (ty:TypeId) (p:Option Addr) (n c:Nat) (x:Value) (w:World):(Builtin.append_ #[114,113] ty #[.slice p n c,x]).run Tryz.prog w=(Builtin.append_ #[114,114] ty #[.slice p n c,x]).run Tryz.prog w:=by
 simp [Builtin.append_,run_underlying Tryz.underlying114,run_underlying Tryz.underlying113,Tryz.sizeOf186]
def replL (l x:List Sp) (i:Nat):List Sp:=l.take i++x++l.drop (i+1)
def ReplP (w:World) (B g:Nat) (l x:List Sp) (i:Nat) (e:Ending) (w':World):Prop:=∃ v',e=.returned v'∧OwnS w' B v' (replL l x i)∧(v'.ownBlock=some g∨∃ g',v'.ownBlock=some g'∧w.heap.size≤g')∧But (fun b=>some g=some b) w w'
theorem replL_len {l x:List Sp} (hi:i < l.length):(replL l x i).length=l.length-1+x.length:=by
 unfold replL;rw [qe,qe,qm,qt];omega
theorem replS_end (g cap B n i j m vb vc:Nat) (l x:List Sp) (w:World) (hO:OwnS w B (.slice (some (Ad g 0)) n cap) l) (hn:l.length=n) (hl:n≤1000000) (hij:j=i+1) (hin:j=n) (hm:x.length=m) (hm1:1≤m∧m≤3)
  (hx:∀ j u,(spCs x)[j]?=some u→w.cell? (Ad vb j)=some u) :
  Cs 258 #[.slice (some (Ad g 0)) n cap,I6 i,I6 j,.slice (some (Ad vb 0)) m vc] w fun e w'=>ReplP w B g l x i e w':=by
 obtain ⟨io,hio,hz0,hz1,hz2⟩:=info_parts infoSp;have hcap:=hO.at0.2;have ho:w.ownsRow B 186 2 (.slice (some (Ad g 0)) n cap) n (spCs l):=by have:=hO;unfold OwnS at this;rwa [hn] at this
 have ho1:=own_shorter ho (show i≤n by omega);have hgl:=qf hO g rfl;obtain ⟨v',w',hr,h2,h3,-,h5⟩:=run_append_own_at (P:=Tryz.prog) w B 114 114 186 io (.agg #[U6 0,U6 0]) 2 16 Tryz.underlying114 hio hz0 hz1 hz2 rfl (by decide) _ i _ ho1 (Ad vb 0) m vc (spCs x) (by rw [vz,hm]) (fun j u hu=>by rw [Addr.add_lit,q9];exact hx j u hu) (Qo _) (by unfold maxLen;omega) (by omega) (by omega);rw [← app_ty] at hr
 have hv':OwnS w' B v' (replL l x i):=by
  unfold OwnS;rw [replL_len (by omega),hn,hm,show n-1+m=i+m by omega];unfold replL;rw [yq (by omega),jd,spCs_app,← spCs_take];exact h2
 obtain ⟨a3,n3,c3,hv3,hn3⟩:∃ a n c,v'=.slice a n c∧n=i+m:=by
  obtain ⟨a,c,e⟩:=hv'.form;rw [replL_len (by omega),hn,hm] at e;exact ⟨_,_,_,e,by omega⟩
 have HP:=km (qd hv' (qd h3 h5));subst hv3;have n1:¬ (i:Int)=(j:Int):=by omega
 have n2:(j:Int)=(n:Int):=by omega
 have n3':¬ (n3:Int) < (n:Int):=by omega
 have n4:(i:Int)≤(j:Int):=by omega
 have n5:(j:Int)≤(cap:Int):=by omega
 have n6:(i:Int)≤(cap:Int):=by omega
 clear hO ho ho1 hv' h2 h3 h5 hn3 hm hx hio hz0 hz1 hz2 hn hij hin;go_enter Tryz.func258,Tryz.ntmps258;go_wp2_with (at_builtin;refine Lib.wpList_append_run _ rfl _ _ _ _ rfl _ _ rfl rfl _ _ hr ?_);go_ret;exact ⟨_,rfl,HP.out.1,HP.out.2.2.via (fun q=>q) (fun q=>⟨_,q,qb _⟩),⟨HP.out.2.1.size,HP.out.2.1.os,HP.out.2.1.tape,HP.out.2.1.output,fun i hi hx=>HP.out.2.1.block i hi fun e=>hx e.symm⟩⟩
theorem own_put3 {w:World} {m:Nat} {l x:List Sp} {ys:List Value} (h:w.ownsRow B 186 2 (.slice (some (Ad g 0)) (n-1+m) cap) (n-1+m) ys) (hn:l.length=n) (hi:i < n) (hm:x.length=m) (hy:ys.take (i*2)=(spCs l).take (i*2)) :
  OwnS ((w.setCells g ((i+m)*2) (spCs (l.drop (i+1)))).setCells g (i*2) (spCs x)) B (.slice (some (Ad g 0)) (n-1+m) cap) (replL l x i)∧OwnS ((w.setCells g (i*2) (spCs x)).setCells g ((i+m)*2) (spCs (l.drop (i+1)))) B (.slice (some (Ad g 0)) (n-1+m) cap) (replL l x i):=by
 have hyl:ys.length=(n-1+m)*2:=h.1;have hd:(spCs (l.drop (i+1))).length=(n-(i+1))*2:=by rw [vz,qt,hn]
 have h6:(spCs x).length=m*2:=by rw [vz,hm]
 have hl:(replL l x i).length=n-1+m:=by rw [replL_len (by omega),hn,hm]
 unfold OwnS;rw [hl];have e:spCs (replL l x i)=ys.take (i*2)++spCs x++spCs (l.drop (i+1)):=by unfold replL;rw [spCs_app,spCs_app,← spCs_take,hy]
 rw [e];constructor
 ·have h1:=ve (spCs (l.drop (i+1))) ((i+m)*2) w _ h (by rw [hd,hyl];omega);have h2:=ve (spCs x) (i*2) _ _ h1 (by simp only [qe,qm,qt,hd,hyl,h6];omega);have e1:ys.drop ((i+m)*2+(spCs (l.drop (i+1))).length)=[]:=List.drop_eq_nil_of_le (by rw [hd,hyl];omega);rw [e1,jd] at h2
  have e2:(ys.take ((i+m)*2)++spCs (l.drop (i+1))).take (i*2)=ys.take (i*2):=by
   rw [kf (by rw [qm,hyl];omega),yg,jr (by omega)]
  have e3:(ys.take ((i+m)*2)++spCs (l.drop (i+1))).drop (i*2+(spCs x).length)=spCs (l.drop (i+1)):=by
   rw [h6,List.drop_left' (by rw [qm,hyl];omega)]
  rwa [e2,e3] at h2
 ·have h1:=ve (spCs x) (i*2) w _ h (by rw [h6,hyl];omega);have h2:=ve (spCs (l.drop (i+1))) ((i+m)*2) _ _ h1 (by simp only [qe,qm,qt,hd,hyl,h6];omega);have e0:(ys.take (i*2)++spCs x).length=(i+m)*2:=by rw [qe,qm,hyl,h6];omega
  have e4:(ys.take (i*2)++spCs x++ys.drop (i*2+(spCs x).length)).drop ((i+m)*2+(spCs (l.drop (i+1))).length)=[]:=List.drop_eq_nil_of_le (by simp only [qe,qm,qt,hd,hyl,h6];omega);rw [j8 e0,e4,jd] at h2;exact h2
theorem infoSpZ:(Tryz.prog.info? 186).map (·.size)=some 2:=by kernel_rfl
theorem cell_drew2 (w:World) (g:Nat):∀ (vs:List Value) (o:Nat) (q:Addr),(w.drew.setCells g o vs).cell? q=(w.setCells g o vs).cell? q
 | [],_,_=>rfl
 | v::vs,o,q=>cell_drew2 (w.setCell (Ad g o) v) g vs (o+1) q
theorem froz_drew2 (w:World) (g:Nat):∀ (vs:List Value) (o:Nat) (q:Addr),(w.drew.setCells g o vs).frozen? q=(w.setCells g o vs).frozen? q
 | [],_,_=>rfl
 | v::vs,o,q=>froz_drew2 (w.setCell (Ad g o) v) g vs (o+1) q
theorem replS_same (g cap B n i j m vb vc:Nat) (l x:List Sp) (w:World) (h:OwnS w B (.slice (some (Ad g 0)) n cap) l) (hn:l.length=n) (hl:n≤1000000) (hij:j=i+1) (hjn:j < n) (hm:x.length=m) (hm1:m=1) (hroom:n-1+m≤cap)
  (hx:∀ j u,(spCs x)[j]?=some u→w.cell? (Ad vb j)=some u) (hvb:vb≠g) :
  Cs 258 #[.slice (some (Ad g 0)) n cap,I6 i,I6 j,.slice (some (Ad vb 0)) m vc] w fun e w'=>ReplP w B g l x i e w':=by
 have hown:w.ownsRow B 186 2 (.slice (some (Ad g 0)) n cap) n (spCs l):=by have:=h;unfold OwnS at this;rwa [hn] at this
 have hnc:n≤cap:=h.at0.2;obtain ⟨ys,hy,hyt⟩:=own_longer hown (show n≤n-1+m by omega) hroom
 have hcap:cap≤9223372036854775807:=by
  rcases h.2 with ⟨e0,_⟩ | ⟨g',cap',cur,e0,h1,h2,h3,h4,h5,h6⟩
  ·cases e0
  ·cases e0;exact h4
 have hyl:ys.length=(n-1+m)*2:=hy.1;have hcell:∀ k,k < n*2→w.cell? (Ad g k)=(spCs l)[k]?:=fun k hk=>za hown k hk;have hsp:∀ k,k < (n-1+m)*2→(w.cell? (Ad g k)).isSome=true:=fun k hk=>by rw [za hy k hk,qk (by omega)];rfl
 have hfz:∀ k,w.frozen? (Ad g k)=false:=fun k=>zq hown k;obtain ⟨tot,htot⟩:∃ tot,tot=n-1+m:=⟨_,rfl⟩;rw [← htot] at hsp hroom;have hdl:(spCs (l.drop j)).length=(n-j)*2:=by rw [vz,qt,hn]
 have hxl:(spCs x).length=m*2:=by rw [vz,hm]
 have hz1:¬ ((i:Int)=(j:Int)):=by omega
 have hz2:¬ ((j:Int)=(n:Int)):=by omega
 have hz3:¬ ((cap:Int) < (tot:Int)):=by omega
 have hw1:IntKind.i64.wrap ((i:Int)+(m:Int))=(i:Int)+(m:Int):=by rw [IntKind.wrap_i64];omega
 have hw2:IntKind.i64.wrap ((i:Int)+(m:Int)+((n-j:Nat):Int))=(tot:Int):=by rw [IntKind.wrap_i64];omega
 have hb1:(0:Int)≤(i:Int)+(m:Int):=by omega
 have htn:((i:Int)+(m:Int)).toNat=i+m:=by omega
 have hb2:¬ (cap=i+m):=by omega
 have hb3:(i:Int)≤(tot:Int):=by omega
 have hb4:¬ (cap=i):=by omega
 have hb5:¬ (cap=j):=by omega
 have hb6:(i:Int)≤(j:Int):=by omega
 have hb7:(j:Int)≤(cap:Int):=by omega
 have hb8:(i:Int)≤(cap:Int):=by omega
 have hb9:(i:Int)+(m:Int)≤(tot:Int):=by omega
 have hc1:(j:Int)≤(n:Int):=by omega
 have hc2:(tot:Int)≤(cap:Int):=by omega
 obtain ⟨W1,hW1⟩:∃ W1,W1=w.drew.setCells g (i*2) (spCs x):=⟨_,rfl⟩
 have hcp1:∀ (W:World),(∀ x,W.cell? x=w.cell? x)→(∀ x,W.frozen? x=w.frozen? x)→∀ ty dc,(Builtin.copy_ #[114,113] ty #[.slice (some ⟨g,i*2,none⟩) (tot-i) dc,.slice (some (Ad vb 0)) m vc]).run Tryz.prog W=.ok (goInt ((m:Nat):Int)) (W.setCells g (i*2) (spCs x)):=fun W hWc hWf ty dc=>
  xm W _ _ ty 186 g (i*2) (tot-i) dc (Ad vb 0) m vc 2 m (spCs x) Tryz.underlying114 infoSpZ (by simp only [ki];split <;> omega) hxl
   (fun t v ht=>by rw [Addr.add_lit,q9,hWc];exact hx t v ht)
   (fun t ht=>by rw [hWc];exact hsp _ (by omega)) (fun t ht=>by rw [hWf];exact hfz _) (Qo _)
 have hcp2:∀ (W:World),(∀ x,W.cell? x=W1.cell? x)→(∀ x,W.frozen? x=W1.frozen? x)→∀ ty dc sc,(Builtin.copy_ #[114,114] ty #[.slice (some ⟨g,(i+m)*2,none⟩) (tot-(i+m)) dc,.slice (some ⟨g,j*2,none⟩) (n-j) sc]).run Tryz.prog W=.ok (goInt ((n-j:Nat):Int)) (W.setCells g ((i+m)*2) (spCs (l.drop j))):=fun W hWc hWf ty dc sc=>
  xm W _ _ ty 186 g ((i+m)*2) (tot-(i+m)) dc ⟨g,j*2,none⟩ (n-j) sc 2 (n-j) (spCs (l.drop j)) Tryz.underlying114 infoSpZ (by simp only [ki];split <;> omega) hdl
   (fun t v ht=>by
    have htl:=(zn.1 ht).1;rw [Addr.add_lit,hWc,hW1,World.cell?_setCells_out g _ _ _ _ (fun _ _=>Or.inr (by rw [hxl];show i*2+m*2≤j*2+t;omega))];show w.cell? ⟨g,j*2+t,none⟩=_
    rw [hcell _ (by omega),← ht,← spCs_drop,ju])
   (fun t ht=>by rw [hWc,hW1];exact isSome_setCells g (spCs x) (i*2) w.drew (fun q hq=>hsp _ (by omega)) _ (hsp _ (by omega))) (fun t ht=>by rw [hWf,hW1,World.frozen?_setCells];exact hfz _) (Qo _)
 have hq1:=fun ty dc=>hcp1 w.drew (fun _=>rfl) (fun _=>rfl) ty dc;have hq2:=fun ty dc sc=>hcp2 ((w.drew.setCells g (i*2) (spCs x)).drew) (fun _=>by rw [hW1];rfl) (fun _=>by rw [hW1];rfl) ty dc sc;clear hcp1 hcp2;have htn2:tot=n:=by omega
 have hcl:∀ (W:World) (ty:TypeId) (a:Option Addr) (c:Nat),(Builtin.clear_ #[114] ty #[.slice a 0 c]).run Tryz.prog W=.ok (.tuple #[]) W:=fun W ty a c=>by
  cases a <;> simp [Builtin.clear_,run_underlying Tryz.underlying114]
 have hle:(i:Int)+(m:Int)≤(j:Int):=by omega
 have HH:=km (qd hy (qd hyt (qd hn (qd hm (qd hW1 (qd htot (qd hij (qd hjn hm1))))))));clear h hown hy hyt hyl hcell hsp hfz hdl hxl hn hm hx htot hij hm1;subst htn2;by_cases hct:cap=tot
 ·subst hct;go_enter Tryz.func258,Tryz.ntmps258;go_wp2_with fail;refine wp_region_held_drew (S:=fun _=>True) (by kernel_rfl) trivial (fun hHeld=>?_);refine ks 0 45 ?_;refine ks 1 46 ?_;refine ks 2 47 ?_;refine ks 3 48 ?_;refine ks 4 49 ?_;refine ks 5 50 ?_;refine ks 6 51 ?_;refine ks 7 52 ?_;refine ks 8 53 ?_;refine ks 9 54 ?_;refine ks 10 55 ?_;refine ks 11 56 ?_;refine rdg 12 (some 10) ?_;refine xy ?_;clear hHeld;go_wp2_with fail;go_region_law (refine step_copy_runI rfl _ _ 114 114 rfl _ _ (by simp [Act.eval,Act.put]) (by simp [Act.eval,Act.put]) (hq2 _ _ _) ?_);go_wp2_with fail;go_ret;obtain ⟨hy,hyt,hn,hm,hW1,htot,hij,hjn,hm1⟩:=HH.out;subst hij;have fin:=(own_put3 (w:=w.drew.drew) (i:=i) hy hn (by omega) hm (by rw [← hyt,yg,jr (by omega)])).2;rw [← htot] at fin;refine ⟨_,rfl,?_,Or.inl rfl,?_⟩
  ·rw [drew_setCells];exact fin
  ·exact vy (X:=fun b=>some g=some b) rfl _ _ _ (vy (X:=fun b=>some g=some b) rfl _ _ _ (But.refl _ _).drew).drew
 ·go_enter Tryz.func258,Tryz.ntmps258;go_wp2_with fail;refine wp_region_held_drew (S:=fun _=>True) (by kernel_rfl) trivial (fun hHeld=>?_);refine ks 0 45 ?_;refine ks 1 46 ?_;refine ks 2 47 ?_;refine ks 3 48 ?_;refine ks 4 49 ?_;refine ks 5 50 ?_;refine ks 6 51 ?_;refine ks 7 52 ?_;refine ks 8 53 ?_;refine ks 9 54 ?_;refine ks 10 55 ?_;refine ks 11 56 ?_;refine rdg 12 (some 10) ?_;refine xy ?_;clear hHeld;go_wp2_with fail;go_region_law (refine step_copy_runI rfl _ _ 114 114 rfl _ _ (by simp [Act.eval,Act.put]) (by simp [Act.eval,Act.put]) (hq2 _ _ _) ?_);go_wp2_with fail;go_ret;obtain ⟨hy,hyt,hn,hm,hW1,htot,hij,hjn,hm1⟩:=HH.out;subst hij;have fin:=(own_put3 (w:=w.drew.drew) (i:=i) hy hn (by omega) hm (by rw [← hyt,yg,jr (by omega)])).2;rw [← htot] at fin;refine ⟨_,rfl,?_,Or.inl rfl,?_⟩
  ·rw [drew_setCells];exact fin
  ·exact vy (X:=fun b=>some g=some b) rfl _ _ _ (vy (X:=fun b=>some g=some b) rfl _ _ _ (But.refl _ _).drew).drew
theorem replS_more (g cap B n i j m vb vc:Nat) (l x:List Sp) (w:World) (h:OwnS w B (.slice (some (Ad g 0)) n cap) l) (hn:l.length=n) (hl:n≤1000000) (hij:j=i+1) (hjn:j < n) (hm:x.length=m) (hm1:2≤m∧m≤3) (hroom:n-1+m≤cap)
  (hx:∀ j u,(spCs x)[j]?=some u→w.cell? (Ad vb j)=some u) (hvb:vb≠g) (tA:TypeId) (kA:Nat) (hsa:w.shape? vb=some (tA,kA)) (hkA:kA≠0) :
  Cs 258 #[.slice (some (Ad g 0)) n cap,I6 i,I6 j,.slice (some (Ad vb 0)) m vc] w fun e w'=>ReplP w B g l x i e w':=by
 have hown:w.ownsRow B 186 2 (.slice (some (Ad g 0)) n cap) n (spCs l):=by have:=h;unfold OwnS at this;rwa [hn] at this
 have hnc:n≤cap:=h.at0.2;obtain ⟨ys,hy,hyt⟩:=own_longer hown (show n≤n-1+m by omega) hroom
 have hcap:cap≤9223372036854775807:=by
  rcases h.2 with ⟨e0,_⟩ | ⟨g',cap',cur,e0,h1,h2,h3,h4,h5,h6⟩
  ·cases e0
  ·cases e0;exact h4
 have hyl:ys.length=(n-1+m)*2:=hy.1;have hcell:∀ k,k < n*2→w.cell? (Ad g k)=(spCs l)[k]?:=fun k hk=>za hown k hk;have hsp:∀ k,k < (n-1+m)*2→(w.cell? (Ad g k)).isSome=true:=fun k hk=>by rw [za hy k hk,qk (by omega)];rfl
 have hfz:∀ k,w.frozen? (Ad g k)=false:=fun k=>zq hown k;obtain ⟨tot,htot⟩:∃ tot,tot=n-1+m:=⟨_,rfl⟩;rw [← htot] at hsp hroom;have hdl:(spCs (l.drop j)).length=(n-j)*2:=by rw [vz,qt,hn]
 have hxl:(spCs x).length=m*2:=by rw [vz,hm]
 have hz1:¬ ((i:Int)=(j:Int)):=by omega
 have hz2:¬ ((j:Int)=(n:Int)):=by omega
 have hz3:¬ ((cap:Int) < (tot:Int)):=by omega
 have hw1:IntKind.i64.wrap ((i:Int)+(m:Int))=(i:Int)+(m:Int):=by rw [IntKind.wrap_i64];omega
 have hw2:IntKind.i64.wrap ((i:Int)+(m:Int)+((n-j:Nat):Int))=(tot:Int):=by rw [IntKind.wrap_i64];omega
 have hb1:(0:Int)≤(i:Int)+(m:Int):=by omega
 have htn:((i:Int)+(m:Int)).toNat=i+m:=by omega
 have hb2:¬ (cap=i+m):=by omega
 have hb3:(i:Int)≤(tot:Int):=by omega
 have hb4:¬ (cap=i):=by omega
 have hb5:¬ (cap=j):=by omega
 have hb6:(i:Int)≤(j:Int):=by omega
 have hb7:(j:Int)≤(cap:Int):=by omega
 have hb8:(i:Int)≤(cap:Int):=by omega
 have hb9:(i:Int)+(m:Int)≤(tot:Int):=by omega
 have hc1:(j:Int)≤(n:Int):=by omega
 have hc2:(tot:Int)≤(cap:Int):=by omega
 obtain ⟨kB,hsb⟩:∃ kB,w.shape? g=some (186,kB):=by
  rcases h.2 with ⟨e0,_⟩ | ⟨g',cap',cur,e0,h1,h2,h3,h4,h5,h6⟩
  ·cases e0
  ·cases e0;exact ⟨cur.size,by unfold World.shape?;rw [h2]⟩
 have hov:∀ (W:World),(∀ b,W.shape? b=w.shape? b)→(∀ x,W.frozen? x=w.frozen? x)→∀ la ca,(callFunc 289 #[.slice (some ⟨g,(i+m)*2,none⟩) la ca,.slice (some (Ad vb 0)) m vc]).run Tryz.prog W=.ok (.value (.bool false)) W:=fun W hWs hWf la ca=>by
  rw [run_callFunc_extern Tryz.func289 (by kernel_rfl) (by kernel_rfl) (by kernel_rfl) (e:=Extern.SlicesOverlaps.overlaps #[113,113] #[4]) (by kernel_rfl),
   Lib.run_overlaps_apart W 113 4 186 Tryz.underlying113 2 Tryz.sizeOf186 ⟨g,(i+m)*2,none⟩ (Ad vb 0) la ca m vc (Ne.symm hvb) 186 tA kB kA (by rw [hWs];exact hsb) (by rw [hWs];exact hsa) hkA (by rw [hWf];exact hfz _) (by rw [hWf];exact hfz _)]
  rfl
 obtain ⟨W1,hW1⟩:∃ W1,W1=w.drew.setCells g ((i+m)*2) (spCs (l.drop j)):=⟨_,rfl⟩
 have hcp1:∀ (W:World),(∀ x,W.cell? x=w.cell? x)→(∀ x,W.frozen? x=w.frozen? x)→∀ ty dc sc,(Builtin.copy_ #[114,114] ty #[.slice (some ⟨g,(i+m)*2,none⟩) (tot-(i+m)) dc,.slice (some ⟨g,j*2,none⟩) (n-j) sc]).run Tryz.prog W=.ok (goInt ((n-j:Nat):Int)) (W.setCells g ((i+m)*2) (spCs (l.drop j))):=fun W hWc hWf ty dc sc=>
  xm W _ _ ty 186 g ((i+m)*2) (tot-(i+m)) dc ⟨g,j*2,none⟩ (n-j) sc 2 (n-j) (spCs (l.drop j)) Tryz.underlying114 infoSpZ (by simp only [ki];split <;> omega) hdl
   (fun t v ht=>by
    have htl:=(zn.1 ht).1;rw [Addr.add_lit,hWc];show w.cell? ⟨g,j*2+t,none⟩=_
    rw [hcell _ (by omega),← ht,← spCs_drop,ju])
   (fun t ht=>by rw [hWc];exact hsp _ (by omega)) (fun t ht=>by rw [hWf];exact hfz _) (Qo _)
 have hcp2:∀ (W:World),(∀ x,W.cell? x=W1.cell? x)→(∀ x,W.frozen? x=W1.frozen? x)→∀ ty dc,(Builtin.copy_ #[114,113] ty #[.slice (some ⟨g,i*2,none⟩) (tot-i) dc,.slice (some (Ad vb 0)) m vc]).run Tryz.prog W=.ok (goInt ((m:Nat):Int)) (W.setCells g (i*2) (spCs x)):=fun W hWc hWf ty dc=>
  xm W _ _ ty 186 g (i*2) (tot-i) dc (Ad vb 0) m vc 2 m (spCs x) Tryz.underlying114 infoSpZ (by simp only [ki];split <;> omega) hxl
   (fun t v ht=>by
    rw [Addr.add_lit,q9,hWc,hW1,World.cell?_setCells_out g _ _ _ _ (fun hq _=>absurd hq hvb)]
    exact hx t v ht)
   (fun t ht=>by rw [hWc,hW1];exact isSome_setCells g _ _ w.drew (fun q hq=>hsp _ (by rw [hdl] at hq;omega)) _ (hsp _ (by omega))) (fun t ht=>by rw [hWf,hW1,World.frozen?_setCells];exact hfz _) (Qo _)
 have hq0:=fun la ca=>hov w.drew (fun _=>rfl) (fun _=>rfl) la ca;have hq1:=fun ty dc sc=>hcp1 w.drew.drew (fun _=>rfl) (fun _=>rfl) ty dc sc;have hq2:=fun ty dc=>hcp2 (w.drew.drew.setCells g ((i+m)*2) (spCs (l.drop j))) (fun q=>by rw [hW1];exact cell_drew2 _ _ _ _ q) (fun q=>by rw [hW1];exact froz_drew2 _ _ _ _ q) ty dc;clear hov hcp1 hcp2;have hle:¬ (i:Int)+(m:Int)≤(j:Int):=by omega
 have HH:=km (qd hy (qd hyt (qd hn (qd hm (qd hW1 (qd htot (qd hij (qd hjn hm1))))))));clear h hown hy hyt hyl hcell hsp hfz hdl hxl hn hm hx htot hij hsa hsb hkA;go_enter Tryz.func258,Tryz.ntmps258;go_wp2_with fail;refine wp_region_held_drew (S:=fun _=>True) (by kernel_rfl) trivial (fun hHeld=>?_);refine ks 0 45 ?_;refine ks 1 46 ?_;refine ks 2 47 ?_;refine ks 3 48 ?_;refine ks 4 49 ?_;refine ks 5 50 ?_;refine ks 6 51 ?_;refine ks 7 52 ?_;refine ks 8 53 ?_;refine ks 9 54 ?_;refine ks 10 55 ?_;refine ks 11 56 ?_;refine rdg 12 (some 10) ?_;refine xy ?_;clear hHeld;go_wp2_with fail;go_region_law (refine step_copy_runI rfl _ _ 114 114 rfl _ _ (by simp [Act.eval,Act.put]) (by simp [Act.eval,Act.put]) (hq1 _ _ _) ?_);go_wp2_with fail;go_ret;obtain ⟨hy,hyt,hn,hm,hW1,htot,hij,hjn,hm1⟩:=HH.out;subst hij;have fin:=(own_put3 (w:=w.drew.drew) (i:=i) hy hn (by omega) hm (by rw [← hyt,yg,jr (by omega)])).1;rw [← htot] at fin;refine ⟨_,rfl,?_,Or.inl rfl,?_⟩
 ·exact fin
 ·exact vy (X:=fun b=>some g=some b) rfl _ _ _ (vy (X:=fun b=>some g=some b) rfl _ _ _ (But.refl _ _).drew.drew)
theorem replS_grow (g cap B n i j m vb vc:Nat) (l x:List Sp) (w:World) (h:OwnS w B (.slice (some (Ad g 0)) n cap) l) (hn:l.length=n) (hl:n≤1000000) (hij:j=i+1) (hjn:j < n) (hm:x.length=m) (hm1:1≤m∧m≤3) (hroom:cap < n-1+m)
  (hx:∀ j u,(spCs x)[j]?=some u→w.cell? (Ad vb j)=some u) (hvw:vb < w.heap.size) :
  Cs 258 #[.slice (some (Ad g 0)) n cap,I6 i,I6 j,.slice (some (Ad vb 0)) m vc] w fun e w'=>ReplP w B g l x i e w':=by
 have hown:w.ownsRow B 186 2 (.slice (some (Ad g 0)) n cap) n (spCs l):=by have:=h;unfold OwnS at this;rwa [hn] at this
 obtain ⟨io,hio,hz0,hzs,hzb⟩:=info_parts infoSp;have hnc:n≤cap:=h.at0.2;have hcell:∀ k,k < n*2→w.cell? (Ad g k)=(spCs l)[k]?:=fun k hk=>za hown k hk;have hol:(spCs l).length=n*2:=by rw [vz,hn]
 have hgw:=qf hown g rfl;obtain ⟨tot,htot⟩:∃ tot,tot=n-1+m:=⟨_,rfl⟩;rw [← htot] at hroom;have hkk:(tot:Int)-(i:Int)=((tot-i:Nat):Int):=by omega
 have hik:i+(tot-i)=tot:=by omega
 have hold:(Builtin.firstCells io.size i (.slice (some (Ad g 0)) i cap)).run Tryz.prog w.drew.drew=.ok ((spCs l).take (i*2)).toArray w.drew.drew:=by
  rw [hzs]
  exact run_firstCells_some w.drew.drew 2 i (Ad g 0) i cap ((spCs l).take (i*2)) (by rw [qm];omega) (fun q v hq=>by
   have hql:=(zn.1 hq).1;rw [qm] at hql;rw [Addr.add_lit,q9,← hq,jc (by omega)]
   exact hcell q (by omega))
 obtain ⟨W0,hW0⟩:∃ W0,W0=w.drew:=⟨_,rfl⟩;have hs0:W0.heap.size=w.heap.size:=by rw [hW0];rfl
 rw [← hW0] at hold
 have hrz:∀ ty,(Builtin.append_ #[114,3] ty #[.slice (some (Ad g 0)) i cap,I6 ((tot:Int)-(i:Int))]).run Tryz.prog W0 =
   .ok (.slice (some (Ad W0.heap.size 0)) tot (grownCap W0 tot cap 186)) (W0.drew.alloc (.cells (((spCs l).take (i*2)).toArray++Builtin.zeroCells (Value.agg #[U6 0,U6 0]).cells (tot-i)++Builtin.zeroCells (Value.agg #[U6 0,U6 0]).cells (grownCap W0 tot cap 186-tot)) 186)):=fun ty=>by
  have h:=Lib.run_append_grow_zeros W0 114 3 ty 186 io _ .i64 .i64 Tryz.underlying114 Tryz.underlying3 hio hz0 (some (Ad g 0)) i cap ((spCs l).take (i*2)) hold (tot-i) (by omega) (by omega) (by omega) (by omega) (by rw [hzb];omega) (by rw [hzb,hik];exact growslice_fits hroom (by omega));rw [hik] at h;rw [hkk];exact h
 obtain ⟨G,hG⟩:∃ G,G=grownCap W0 tot cap 186:=⟨_,rfl⟩;have hGn:tot≤G:=by rw [hG];exact grownCap_ge W0 _ _ _
 have hG63:G≤maxLen:=by rw [hG];exact grownCap_le_maxLen W0 tot cap 186 (by unfold maxLen;omega)
 obtain ⟨ROW,hROW⟩:∃ ROW:Array Value,ROW=((spCs l).take (i*2)).toArray++Builtin.zeroCells (Value.agg #[U6 0,U6 0]).cells (tot-i)++Builtin.zeroCells (Value.agg #[U6 0,U6 0]).cells (G-tot):=⟨_,rfl⟩;rw [← hG,← hROW] at hrz;have hzc:(Value.agg #[U6 0,U6 0]).cells.size=2:=by kernel_rfl
 have hRs:ROW.size=G*2:=by
  rw [hROW];simp only [Array.size_append,ya,qm,hol,Builtin.zeroCells,Array.size_map,yf,hzc];omega
 have hRt:ROW.toList.take (i*2)=(spCs l).take (i*2):=by
  rw [hROW];simp only [Array.toList_append];rw [qr,j8 (by rw [qm,hol];omega)]
 have hdl:(spCs (l.drop j)).length=(n-j)*2:=by rw [vz,qt,hn]
 have hxl:(spCs x).length=m*2:=by rw [vz,hm]
 obtain ⟨N,hN0⟩:∃ N,N=W0.heap.size:=⟨_,rfl⟩;obtain ⟨W1,hW1⟩:∃ W1,W1=W0.drew.alloc (.cells ROW 186):=⟨_,rfl⟩;rw [← hW1,← hN0] at hrz
 have hN:∀ q,q < tot*2→(W1.cell? (Ad N q)).isSome=true:=fun q hq=>by
  rw [hW1,World.cell?_alloc_at (w:=W0.drew) ROW _ N q hN0,yx (by omega)];rfl
 have hNf:∀ q,W1.frozen? (Ad N q)=false:=fun q=>by rw [hW1];exact World.frozen?_alloc_at (w:=W0.drew) ROW _ N q hN0
 have hOb:∀ b q v,b < w.heap.size→w.cell? (Ad b q)=some v→W1.cell? (Ad b q)=some v:=fun b q v hb h=>by rw [hW1,World.cell?_alloc_past (w:=W0.drew) _ b q (by rw [← hs0] at hb;exact hb),hW0];exact h
 have hq1:∀ ty dc,(Builtin.copy_ #[114,113] ty #[.slice (some ⟨N,i*2,none⟩) (tot-i) dc,.slice (some (Ad vb 0)) m vc]).run Tryz.prog W1=.ok (goInt ((m:Nat):Int)) (W1.setCells N (i*2) (spCs x)):=fun ty dc=>
  xm W1 _ _ ty 186 N (i*2) (tot-i) dc (Ad vb 0) m vc 2 m (spCs x) Tryz.underlying114 infoSpZ (by simp only [ki];split <;> omega) hxl
   (fun t v ht=>by rw [Addr.add_lit,q9];exact hOb _ _ v hvw (hx t v ht))
   (fun t ht=>hN _ (by omega)) (fun t ht=>hNf _) (Qo _)
 have hgN:g≠N:=by omega
 have hq2:∀ ty dc sc,(Builtin.copy_ #[114,114] ty #[.slice (some ⟨N,(i+m)*2,none⟩) (tot-(i+m)) dc,.slice (some ⟨g,j*2,none⟩) (n-j) sc]).run Tryz.prog (W1.setCells N (i*2) (spCs x)).drew=.ok (goInt ((n-j:Nat):Int)) ((W1.setCells N (i*2) (spCs x)).drew.setCells N ((i+m)*2) (spCs (l.drop j))):=fun ty dc sc=>
  xm _ _ _ ty 186 N ((i+m)*2) (tot-(i+m)) dc ⟨g,j*2,none⟩ (n-j) sc 2 (n-j) (spCs (l.drop j)) Tryz.underlying114 infoSpZ (by simp only [ki];split <;> omega) hdl
   (fun t v ht=>by
    have htl:=(zn.1 ht).1;rw [Addr.add_lit];show (W1.setCells N (i*2) (spCs x)).cell? _=_;rw [World.cell?_setCells_out _ _ _ _ _ (fun hq _=>absurd hq hgN)];refine hOb _ _ v hgw.2 ?_
    rw [hcell _ (by omega),← ht,← spCs_drop,ju])
   (fun t ht=>isSome_setCells N (spCs x) (i*2) W1 (fun q hq=>hN _ (by omega)) _ (hN _ (by omega)))
   (fun t ht=>(World.frozen?_setCells ..).trans (hNf _)) (Qo _)
 have hz1:¬ ((i:Int)=(j:Int)):=by omega
 have hz2:¬ ((j:Int)=(n:Int)):=by omega
 have hz3:(cap:Int) < (tot:Int):=by omega
 have hw1:IntKind.i64.wrap ((i:Int)+(m:Int))=(i:Int)+(m:Int):=by rw [IntKind.wrap_i64];omega
 have hw2:IntKind.i64.wrap ((i:Int)+(m:Int)+((n-j:Nat):Int))=(tot:Int):=by rw [IntKind.wrap_i64];omega
 have hw3:IntKind.i64.wrap ((tot:Int)-(i:Int))=(tot:Int)-(i:Int):=by rw [IntKind.wrap_i64];omega
 have hGi:¬ (G=i):=by omega
 have hGim:¬ (G=i+m):=by omega
 have hci:¬ (cap=i):=by omega
 have hcj:¬ (cap=j):=by omega
 have hG64:G≤9223372036854775807:=hG63;have hb1:(0:Int)≤(i:Int)+(m:Int):=by omega
 have htn:((i:Int)+(m:Int)).toNat=i+m:=by omega
 have hb3:(i:Int)≤(tot:Int):=by omega
 have hb6:(i:Int)≤(j:Int):=by omega
 have hb7:(j:Int)≤(cap:Int):=by omega
 have hb8:(i:Int)≤(cap:Int):=by omega
 have hb9:(i:Int)+(m:Int)≤(tot:Int):=by omega
 have hc1:(j:Int)≤(n:Int):=by omega
 have HH:=km (qd hRs (qd hRt (qd hn (qd hm (qd hG63 (qd hGn (qd hgw (qd hW1 (qd hN0 (qd hW0 (qd htot hij)))))))))));clear h hown hcell hol hx hkk hik hold hROW hG hRs hRt hzc hdl hxl hN hNf hOb hn hm hG63 hzs hzb hz0 hio hW1 hN0 htot hij hs0 hW0;go_enter Tryz.func258,Tryz.ntmps258;go_wp2_with fail;refine wp_region_held_drew (S:=fun _=>True) (by kernel_rfl) trivial (fun hHeld=>?_);refine ks 0 45 ?_;refine ks 1 46 ?_;refine ks 2 47 ?_;refine ks 3 48 ?_;refine ks 4 49 ?_;refine ks 5 50 ?_;refine ks 6 51 ?_;refine ks 7 52 ?_;refine ks 8 53 ?_;refine ks 9 54 ?_;refine ks 10 55 ?_;refine ks 11 56 ?_;refine rdg 12 (some 10) ?_;refine xy ?_;clear hHeld;rw [← HH.out.2.2.2.2.2.2.2.2.2.1];go_wp2_with (at_builtin;refine Lib.wpList_append_run _ rfl _ _ _ _ rfl _ _ rfl rfl _ _ (hrz _) ?_);go_region_law (refine step_copy_runI rfl _ _ 114 114 rfl _ _ (by simp [Act.eval,Act.put]) (by simp [Act.eval,Act.put]) (hq2 _ _ _) ?_);go_wp2;go_ret;obtain ⟨hRs,hRt,hn,hm,hG63,hGn,hgw,hW1,hN0,hW0,htot,hij⟩:=HH.out;subst hij;have hs0:W0.heap.size=w.heap.size:=by rw [hW0];rfl
 have hNw:N=w.heap.size:=hN0.trans hs0
 have hrow:W1.drew.ownsRow B 186 2 (.slice (some (Ad N 0)) (n-1+m) G) (n-1+m) (ROW.toList.take ((n-1+m)*2)):=by
  refine ⟨by rw [qm,yo,hRs];omega,Or.inr ⟨N,G,ROW,rfl,by omega,?_,by omega,hG63,hRs,rfl⟩⟩;rw [hW1,hN0];exact heap_alloc_new W0.drew _
 have fin:=(own_put3 (w:=W1.drew) (i:=i) hrow hn (by omega) hm (by rw [yg,jr (by omega),hRt])).2;rw [← htot] at fin;refine ⟨_,rfl,?_,Or.inr ⟨N,rfl,by omega⟩,?_⟩
 ·rw [drew_setCells];exact fin
 ·have hb0:But (fun b=>some g=some b) w W0:=by rw [hW0];exact (But.refl _ _).drew
  have hb:But (fun b=>some g=some b) w W1:=by rw [hW1];exact (hb0.drew).alloc _
  have hb2:∀ (vs:List Value) (k:Nat) (b:World),But (fun b=>some g=some b) w b→But (fun b=>some g=some b) w (b.setCells N k vs):=by
   intro vs
   induction vs with
   | nil=>intro k b hb;exact hb
   | cons v vs ih=>intro k b hb;exact ih (k+1) _ (hb.setCell (Or.inr (by show w.heap.size≤N;omega)) v)
  exact hb2 _ _ _ (hb2 _ _ _ hb).drew
end Go.Proofs.YtgccjefbedpmpaaGreatDoor

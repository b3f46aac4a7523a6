import Derived.Test.YtgccjefbedpmpaaGreatDoorYTell1
import Derived.Shelf.SlSortCmp.NoneTotal
namespace Go.Proofs.YtgccjefbedpmpaaGreatDoor
open Go.Shelf Go.RowKit Go.Sort
set_option maxRecDepth 100000
set_option maxHeartbeats 8000000
variable {B box cap g i tb : Nat} {o : Opn} {os : List Opn} {v' vG vI : Value} {w' w0 : World}
def sortF_ren:Go.Shelf.Ren:=⟨fun|6=>218|15=>267|14=>266|28=>301|29=>302|20=>293|21=>294|22=>295|23=>296|24=>297|25=>298|26=>299|27=>300|46=>321|47=>322|48=>323|49=>324|50=>325|57=>333|n=>n,fun|22=>32|24=>43|25=>308|3=>3|39=>251|0=>0|53=>39|55=>41|4=>4|46=>390|45=>389|50=>169|5=>5|9=>9|66=>414|70=>417|76=>423|77=>327|n=>n,fun|n=>n⟩
theorem sortF_lays:Go.Proofs.SlLaysF0.n6 Tryz.prog sortF_ren:={
 mixed:=by kernel_rfl
 f6:=⟨Tryz.f218.name,by decide,Tryz.func218.trans (congrArg some (by kernel_rfl))⟩
 f14:=⟨Tryz.f266.name,by decide,Tryz.func266.trans (congrArg some (by kernel_rfl))⟩
 f15:=Tryz.func267.trans (congrArg some (by kernel_rfl))
 f20:=⟨Tryz.f293.name,by decide,Tryz.func293.trans (congrArg some (by kernel_rfl))⟩
 f21:=⟨Tryz.f294.name,by decide,Tryz.func294.trans (congrArg some (by kernel_rfl))⟩
 f22:=⟨Tryz.f295.name,by decide,Tryz.func295.trans (congrArg some (by kernel_rfl))⟩
 f23:=⟨Tryz.f296.name,by decide,Tryz.func296.trans (congrArg some (by kernel_rfl))⟩
 f24:=⟨Tryz.f297.name,by decide,Tryz.func297.trans (congrArg some (by kernel_rfl))⟩
 f25:=⟨Tryz.f298.name,by decide,Tryz.func298.trans (congrArg some (by kernel_rfl))⟩
 f26:=⟨Tryz.f299.name,by decide,Tryz.func299.trans (congrArg some (by kernel_rfl))⟩
 f27:=⟨Tryz.f300.name,by decide,Tryz.func300.trans (congrArg some (by kernel_rfl))⟩
 f28:=Tryz.func301.trans (congrArg some (by kernel_rfl))
 f29:=Tryz.func302.trans (congrArg some (by kernel_rfl))
 f46:=⟨Tryz.f321.name,by decide,Tryz.func321.trans (congrArg some (by kernel_rfl))⟩
 f47:=Tryz.func322.trans (congrArg some (by kernel_rfl))
 f48:=Tryz.func323.trans (congrArg some (by kernel_rfl))
 f49:=⟨Tryz.f324.name,by decide,Tryz.func324.trans (congrArg some (by kernel_rfl))⟩
 f50:=⟨Tryz.f325.name,by decide,Tryz.func325.trans (congrArg some (by kernel_rfl))⟩
 f57:=⟨Tryz.f333.name,by decide,Tryz.func333.trans (congrArg some (by kernel_rfl))⟩
 t0:=Tryz.underlying0
 a0:=Tryz.isAgg0
 z0:=Tryz.sizeOf0
 v0:=Tryz.zeroValue0
 t3:=Tryz.underlying3
 a3:=Tryz.isAgg3
 z3:=Tryz.sizeOf3
 v3:=Tryz.zeroValue3
 t4:=Tryz.underlying4
 a4:=Tryz.isAgg4
 z4:=Tryz.sizeOf4
 v4:=Tryz.zeroValue4
 t5:=Tryz.underlying5
 a5:=Tryz.isAgg5
 z5:=Tryz.sizeOf5
 v5:=Tryz.zeroValue5
 t9:=Tryz.underlying9
 a9:=Tryz.isAgg9
 z9:=Tryz.sizeOf9
 v9:=Tryz.zeroValue9
 t22:=Tryz.underlying32
 a22:=Tryz.isAgg32
 z22:=Tryz.sizeOf32
 v22:=Tryz.zeroValue32
 t25:=Tryz.underlying308
 a25:=Tryz.isAgg308
 z25:=Tryz.sizeOf308
 v25:=Tryz.zeroValue308
 t39:=Tryz.underlying251
 a39:=Tryz.isAgg251
 z39:=Tryz.sizeOf251
 v39:=Tryz.zeroValue251
 t45:=Tryz.underlying389
 a45:=Tryz.isAgg389
 z45:=Tryz.sizeOf389
 v45:=Tryz.zeroValue389
 t46:=Tryz.underlying390
 a46:=Tryz.isAgg390
 z46:=Tryz.sizeOf390
 v46:=Tryz.zeroValue390
 t50:=Tryz.underlying169
 a50:=Tryz.isAgg169
 z50:=Tryz.sizeOf169
 v50:=Tryz.zeroValue169
 t53:=Tryz.underlying39
 a53:=Tryz.isAgg39
 z53:=Tryz.sizeOf39
 v53:=Tryz.zeroValue39
 t55:=Tryz.underlying41
 a55:=Tryz.isAgg41
 z55:=Tryz.sizeOf41
 v55:=Tryz.zeroValue41
 t66:=Tryz.underlying414
 a66:=Tryz.isAgg414
 z66:=Tryz.sizeOf414
 v66:=Tryz.zeroValue414
 t70:=Tryz.underlying417
 a70:=Tryz.isAgg417
 z70:=Tryz.sizeOf417
 v70:=Tryz.zeroValue417
 t76:=Tryz.underlying423
 a76:=Tryz.isAgg423
 z76:=Tryz.sizeOf423
 v76:=Tryz.zeroValue423
 t77:=Tryz.underlying327
 a77:=Tryz.isAgg327
 z77:=Tryz.sizeOf327
 v77:=Tryz.zeroValue327 }
theorem cmpI_lt (a b:Int):cmpI a b<0↔a<b:=by unfold cmpI;(repeat' split)<;>omega
theorem cmpI_zero (a b:Int):cmpI a b=0↔a=b:=by unfold cmpI;(repeat' split)<;>omega
def ahd (x y:Opn):Prop:=x.rf<y.rf∨(x.rf=y.rf∧(y.st<x.st∨(y.st=x.st∧y.key<x.key)))
theorem placeC_lt (x y:Opn):placeC x y<0↔ahd x y:=by
 unfold placeC or3 ahd;have h1:=cmpI_lt x.rf y.rf;have h2:=cmpI_zero x.rf y.rf;have h3:=cmpI_lt y.st x.st;have h4:=cmpI_zero y.st x.st;have h5:=cmpI_lt y.key x.key;split
 ·rename_i h;rw [ne_eq,h2] at h;rw [h1];omega
 ·rename_i h;rw [ne_eq,h2,Decidable.not_not] at h;split
  ·rename_i k;rw [ne_eq,h4] at k;rw [h3];omega
  ·rename_i k;rw [ne_eq,h4,Decidable.not_not] at k;rw [h5];omega
def oAt (os:List Opn) (i:Nat):Opn:=os.getD i ⟨1,1,1,1,0,32⟩
theorem oAt_lt (h:i<os.length):oAt os i=os[i]:=by unfold oAt;rw [zv,qk h];rfl
def cellsO (o:Opn):List Value:=[I6 o.kd,U3 o.cl,U3 o.ck,U3 o.st,U6 o.rf,I3 o.ch]
theorem cellsO_get (o:Opn) {j:Nat} (h:j<6):(cellsO o)[j]! = opV o j:=by
 match j,h with
 | 0,_=>rfl
 | 1,_=>rfl
 | 2,_=>rfl
 | 3,_=>rfl
 | 4,_=>rfl
 | 5,_=>rfl
theorem swoPlace (os:List Opn):SWO (ltOf fun i j=>placeC (oAt os i) (oAt os j)):=by
 have e:∀ i j,ltOf (fun i j=>placeC (oAt os i) (oAt os j)) i j=true↔ahd (oAt os i) (oAt os j):=fun i j=>by unfold ltOf;rw [decide_eq_true_iff];exact placeC_lt _ _
 have e':∀ i j,ltOf (fun i j=>placeC (oAt os i) (oAt os j)) i j=false↔¬ ahd (oAt os i) (oAt os j):=fun i j=>by rw [← e,Bool.not_eq_true]
 refine ⟨fun x=>?_,fun x y z=>?_,fun x y z=>?_⟩
 ·rw [e'];unfold ahd;omega
 ·rw [e,e,e];unfold ahd;omega
 ·rw [e',e',e'];unfold ahd;omega
def ccT (o:Opn):Prop:=(0≤o.cl∧o.cl<4294967296)∧(0≤o.ck∧o.ck<4294967296)
theorem oAt_cc (h:∀ o∈os,ccT o) (i:Nat):ccT (oAt os i):=by
 by_cases hi:i<os.length
 ·rw [oAt_lt hi];exact h _ (qn hi)
 ·unfold oAt;rw [zv,zj (by omega)];exact ⟨by decide,by decide⟩
theorem holdsOps {w:World} (h:OwnO w B (.slice (some (Ad g 0)) os.length cap) os):HoldsK (fun i=>cellsO (oAt os i)) 6 w g 0 (Array.range os.length):=by
 intro j hj;rw [size_flatK,yf] at hj;refine ⟨?_,zq h _⟩;have hi:j / 6<os.length:=by omega
 have hc:=za h j hj;rw [q9,hc,id,get_flatK _ _ _ _ (by rw [yf];exact hj)];have e:(Array.range os.length)[j / 6]! = j / 6:=by rw [getElem!_pos _ _ (by rw [yf];exact hi)];simp
 rw [e,cellsO_get _ (by omega),oAt_lt hi];have:=opCs_get os hi (j:=j % 6) (by omega);rwa [show j / 6*6+j % 6=j by omega] at this
theorem sortedOps {w:World} {m:Nat} (h:OwnO w B (.slice (some (Ad g 0)) os.length cap) os) (d:Array Nat) (hd:d.size=os.length) (hg:g<w.heap.size) (xs:Array Obj) :
  OwnO (sortWorldK (fun i=>cellsO (oAt os i)) 6 w g 0 m d xs) B (.slice (some (Ad g 0)) os.length cap) (d.toList.map (oAt os))∧But (fun b=>b=g) w (sortWorldK (fun i=>cellsO (oAt os i)) 6 w g 0 m d xs):=by
 rcases h.2 with ⟨e,h0⟩|⟨g',cap',cur,e,h3,h4,h5,h6,h7,h8⟩
 ·cases e
 cases e;have hl:(d.toList.map (oAt os)).length=os.length:=by rw [ze,yo,hd]
 have hh:(sortWorldK (fun i=>cellsO (oAt os i)) 6 w g 0 m d xs).heap=(w.heap.modify g (onCells (putCells id 0 (flatK (fun i=>cellsO (oAt os i)) 6 d))))++xs:=rfl;have hms:(w.heap.modify g (onCells (putCells id 0 (flatK (fun i=>cellsO (oAt os i)) 6 d)))).size=w.heap.size:=Array.size_modify;refine ⟨?_,?_⟩
 ·unfold OwnO;rw [hl];refine ⟨by rw [xu,hl],Or.inr ⟨g,cap,putCells id 0 (flatK (fun i=>cellsO (oAt os i)) 6 d) cur,rfl,h3,?_,h5,h6,by unfold putCells;rw [Array.size_mapIdx];exact h7,?_⟩⟩
  ·rw [hh,jl (by rw [hms];exact hg),Array.getElem?_modify,if_pos rfl,h4];rfl
  ·apply List.ext_getElem?;intro k;by_cases hk:k<os.length*6
   ·rw [jc hk];have hq:k / 6<d.size:=by omega
    have h2:=opCs_get (d.toList.map (oAt os)) (i:=k / 6) (j:=k % 6) (by rw [hl];omega) (by omega);rw [show k / 6*6+k % 6=k by omega] at h2;rw [h2,Array.getElem?_toList];unfold putCells;rw [Array.getElem?_mapIdx,yx (show k<cur.size by omega),Option.map_some,if_pos ⟨qs _,by rw [size_flatK];omega⟩,Nat.sub_zero,id,get_flatK _ _ _ _ (by omega),cellsO_get _ (by omega),List.getElem_map,Array.getElem_toList,getElem!_pos d _ hq]
   ·rw [zj (by rw [qm];omega),zj (by rw [xu,hl];omega)]
 ·refine ⟨by rw [hh,Array.size_append,hms];omega,rfl,rfl,rfl,fun b hb hx=>?_⟩;rw [hh,jl (by rw [hms];exact hb),Array.getElem?_modify,if_neg (fun e=>hx e.symm)]
theorem sortF_any (B:Nat) (v:Value) (os:List Opn) (w:World) (h:OwnO w B v os) (hc:∀ o∈os,ccT o) (hs:os.length<4611686018427387904):Cs 218 #[v,.func (.func 219) #[] #[]] w fun e w'=>e=.returned (.tuple #[])∧∃ xs,xs.Perm os∧xs.Pairwise (fun x y=>¬ ahd y x)∧OwnO w' B v xs∧But (fun b=>v.ownBlock=some b) w w':=by
 rcases h.2 with ⟨e,h0⟩|⟨g,cap,cur,e,h3,h4,h5,h6,h7,h8⟩
 ·subst e;have h0':os=[]:=jm h0;subst h0';refine (AnyF.slices_SortFunc_none { sortF_lays with } none 0 _ w).mono ?_;rintro e w' ⟨rfl,rfl⟩;exact ⟨rfl,[],List.Perm.refl _,List.Pairwise.nil,h,But.refl _ _⟩
 ·subst e;have hg:g<w.heap.size:=(zf.1 h4).1;have eg:∀ args w,(callFunc 219 args).run Tryz.prog w=.ok (.enter 219 args) w:=enters_of Tryz.func219 (by kernel_rfl) rfl;have hcon:=AnyQ.slices_SortFunc sortF_lays 6 Tryz.isAgg43 Tryz.sizeOf43 (fun i=>cellsO (oAt os i)) (fun _=>rfl) (fun x v hv=>by simp [cellsO] at hv;rcases hv with rfl|rfl|rfl|rfl|rfl|rfl<;>rfl) (fun i j=>placeC (oAt os i) (oAt os j)) (swoPlace os) 219 #[] g 0 cap (Array.range os.length) w eg (fun m xs dk hdk x y=>byPlace_any _ _ (oAt_cc hc x) (oAt_cc hc y) _) (holdsOps h) hg (by rw [yf];exact hs);rw [yf] at hcon;refine hcon.mono ?_;rintro e w' ⟨rfl,d,m,xs,hp,hsd,rfl⟩;obtain ⟨p1,-,p3⟩:=hp;rw [yf] at p1;have e1:(d.extract 0 os.length)=d:=by rw [← p1];exact Array.extract_size
  have e2:((Array.range os.length).extract 0 os.length)=Array.range os.length:=by
   have:=Array.extract_size (xs:=Array.range os.length);rwa [yf] at this
  rw [e1,e2] at p3;obtain ⟨q1,q2⟩:=sortedOps (m:=m) h d p1 hg xs;refine ⟨rfl,d.toList.map (oAt os),?_,?_,q1,q2.mono fun b e=>by subst e;rfl⟩
  ·refine (p3.map (oAt os)).trans ?_
   have:(Array.range os.length).toList.map (oAt os)=os:=by
    rw [Array.toList_range];apply List.ext_getElem (by simp);intro i a b;rw [List.getElem_map,List.getElem_range,oAt_lt b]
   rw [this]
  ·rw [List.pairwise_map,zl];intro i j a b hij;rw [yo] at a b;have:=hsd i j (qs _) hij (by omega);unfold ltOf at this;rw [decide_eq_false_iff_not,placeC_lt,getElem!_pos d _ b,getElem!_pos d _ a] at this;rw [Array.getElem_toList,Array.getElem_toList];exact this
def insOf (os:List Opn):List Opn:=os.filter fun o=>decide (o.kd=1)
def goneOf (os:List Opn):List Int:=(os.filter fun o=>decide (¬ o.kd=1)).map Opn.rf
def SortU (us:List Int):Prop:=∀ (B:Nat) (v:Value) (w:World),OwnU w B v us→Cs 220 #[v] w fun e w'=>e=.returned (.tuple #[])∧∃ xs,xs.Perm us∧xs.Pairwise (·≤·)∧OwnU w' B v xs∧But (fun b=>v.ownBlock=some b) w w'
structure TelJ (w0 W:World) (tb box:Nat) (vI vG:Value) (gone:List Int) (o:Opn):Prop where
 below:Bel w0 W
 hG:OwnU W w0.heap.size vG gone
 row:RowIs W tb 306 3 (tel3 vI vG (.slice none 0 0))
 box:RowIs W box 43 6 (opV o)
structure TelH (w0 W:World) (tb box:Nat) (vI vG:Value) (ins:List Opn) (o:Opn):Prop where
 below:Bel w0 W
 hI:OwnO W w0.heap.size vI ins
 row:RowIs W tb 306 3 (tel3 vI vG (.slice none 0 0))
 box:RowIs W box 43 6 (opV o)
theorem grown_below {W:World} {A:Obj} {row:Option Nat} (h:Bel w0 W) (hg:(W.alloc A).grownBy w' row) (hr:∀ b,row=some b→w0.heap.size≤b):Bel w0 w':=by
 have hz:(W.alloc A).heap.size=W.heap.size+1:=by simp
 refine ⟨hg.os.trans h.os,hg.tape.trans h.tape,hg.output.trans h.output,by have:=hg.size;have:=h.size;omega,fun b hb=>?_⟩;have:=h.size;rw [hg.block b (by omega) fun e=>by have:=hr b e.symm;omega,xw (by omega)];exact h.block b hb
theorem grown_old {W:World} {A:Obj} {row:Option Nat} (hg:(W.alloc A).grownBy w' row):∀ b,b<W.heap.size→some b≠row→w'.heap[b]?=W.heap[b]?:=fun b hb h1=>(hg.block b (by simp;omega) h1).trans (xw hb)
theorem Tel.grownI {W:World} {ins:List Opn} {gone:List Int} {A:Obj} (h:Tel w0 W tb vI vG (.slice none 0 0) ins gone []) (hb:RowIs W box 43 6 (opV o)) (hbx:∀ g,vI.ownBlock=some g→g≠box) (hg:(W.alloc A).grownBy w' vI.ownBlock):TelJ w0 w' tb box vI vG gone o:=
 ⟨grown_below h.below hg fun b e=>(h.hI.lt b e).1,kp h.hG fun g hg'=>grown_old hg g (h.hG.lt g hg').2 fun e=>own_apart (own0 h.hG) (own0 h.hI) (by decide) hg' e.symm,(grown_old hg tb h.row.lt fun e=>xf (own0 h.hI) h.row (by decide) e.symm rfl).trans h.row,(grown_old hg box hb.lt fun e=>hbx box e.symm rfl).trans hb⟩
theorem Tel.grownG {W:World} {ins:List Opn} {gone:List Int} {A:Obj} (h:Tel w0 W tb vI vG (.slice none 0 0) ins gone []) (hb:RowIs W box 43 6 (opV o)) (hg:(W.alloc A).grownBy w' vG.ownBlock):TelH w0 w' tb box vI vG ins o:=
 ⟨grown_below h.below hg fun b e=>(h.hG.lt b e).1,kp h.hI fun g hg'=>grown_old hg g (h.hI.lt g hg').2 fun e=>own_apart (own0 h.hI) (own0 h.hG) (by decide) hg' e.symm,(grown_old hg tb h.row.lt fun e=>xf (own0 h.hG) h.row (by decide) e.symm rfl).trans h.row,(grown_old hg box hb.lt fun e=>xf (own0 h.hG) hb (by decide) e.symm rfl).trans hb⟩
theorem Tel.appI {ins:List Opn} {gone:List Int} (hlo:w0.heap.size≤tb) (hm:TelJ w0 w' tb box vI vG gone o) (ho:w'.ownsRow w0.heap.size 43 6 v' (ins.length+1) (opCs ins++[I6 o.kd,U3 o.cl,U3 o.ck,U3 o.st,U6 o.rf,I3 o.ch])):Tel w0 (w'.setCell (Ad tb 0) v') tb v' vG (.slice none 0 0) (ins++[o]) gone []:=by
 have hO:OwnO w' w0.heap.size v' (ins++[o]):=by
  unfold OwnO;rw [qe,opCs_app];exact ho
 have k2:∀ b,b≠tb→(w'.setCell (Ad tb 0) v').heap[b]?=w'.heap[b]?:=fun b hb=>heap_setCell_other _ _ _ _ hb;refine ⟨hm.below.setCell (p:=(Ad tb 0)) hlo _,hlo,kp hO fun g hg=>k2 g fun e=>xf (own0 hO) hm.row (by decide) hg e,kp hm.hG fun g hg=>k2 g fun e=>xf (own0 hm.hG) hm.row (by decide) hg e,?_,World.ownsRow_nil _ _ _ _,fun _ _ e=>by cases e⟩;refine (hm.row.set 0 v').congr fun j hj=>?_
 match j,hj with
 | 0,_=>rfl
 | 1,_=>rfl
 | 2,_=>rfl
theorem Tel.appG {ins:List Opn} {gone:List Int} (hlo:w0.heap.size≤tb) (hm:TelH w0 w' tb box vI vG ins o) (ho:w'.ownsRow w0.heap.size 41 1 v' (gone.length+1) (u64s gone++[U6 o.rf])):Tel w0 (w'.setCell (Ad tb 1) v') tb vI v' (.slice none 0 0) ins (gone++[o.rf]) []:=by
 have hO:OwnU w' w0.heap.size v' (gone++[o.rf]):=by
  unfold OwnU u64s;rw [qe,yb];exact ho
 have k2:∀ b,b≠tb→(w'.setCell (Ad tb 1) v').heap[b]?=w'.heap[b]?:=fun b hb=>heap_setCell_other _ _ _ _ hb;refine ⟨hm.below.setCell (p:=(Ad tb 1)) hlo _,hlo,kp hm.hI fun g hg=>k2 g fun e=>xf (own0 hm.hI) hm.row (by decide) hg e,kp hO fun g hg=>k2 g fun e=>xf (own0 hO) hm.row (by decide) hg e,?_,World.ownsRow_nil _ _ _ _,fun _ _ e=>by cases e⟩;refine (hm.row.set 1 v').congr fun j hj=>?_
 match j,hj with
 | 0,_=>rfl
 | 1,_=>rfl
 | 2,_=>rfl
theorem insOf_take (os:List Opn) (h:i<os.length):insOf (os.take (i+1))=if os[i].kd=1 then insOf (os.take i)++[os[i]] else insOf (os.take i):=by
 unfold insOf;rw [zk h,zt];by_cases hk:os[i].kd=1<;>simp [hk]
theorem goneOf_take (os:List Opn) (h:i<os.length):goneOf (os.take (i+1))=if os[i].kd=1 then goneOf (os.take i) else goneOf (os.take i)++[os[i].rf]:=by
 unfold goneOf;rw [zk h,zt];by_cases hk:os[i].kd=1<;>simp [hk]
theorem tellL_gone (n:Nat) (ins:List Opn) {g g':List Int} (h:g.Perm g'):∀ ref,tellL n ins g ref=tellL n ins g' ref:=by
 induction n with
 | zero=>intro ref;rfl
 | succ n ih=>
  intro ref
  have e:∀ k,g.contains k=g'.contains k:=fun k=>by
   rw [Bool.eq_iff_iff,ji,ji];exact h.mem_iff
  simp only [tellL,e,ih]
theorem Tel.sortedI {W:World} {ins xs:List Opn} {gone:List Int} (h:Tel w0 W tb vI vG (.slice none 0 0) ins gone []) (ho:OwnO w' w0.heap.size vI xs) (hb:But (fun b=>vI.ownBlock=some b) W w'):Tel w0 w' tb vI vG (.slice none 0 0) xs gone []:=by
 refine ⟨⟨hb.os.trans h.below.os,hb.tape.trans h.below.tape,hb.output.trans h.below.output,qi h.below.size hb.size,fun b hb'=>?_⟩,h.lo,ho,kp h.hG fun g hg=>hb.block g (h.hG.lt g hg).2 fun e=>own_apart (own0 h.hG) (own0 h.hI) (by decide) hg e,(hb.block tb h.row.lt fun e=>xf (own0 h.hI) h.row (by decide) e rfl).trans h.row,World.ownsRow_nil _ _ _ _,fun _ _ e=>by cases e⟩;have:=h.below.size;rw [hb.block b (by omega) fun e=>by have:=(h.hI.lt b e).1;omega];exact h.below.block b hb'
theorem Tel.sortedG {W:World} {ins:List Opn} {gone gs:List Int} (h:Tel w0 W tb vI vG (.slice none 0 0) ins gone []) (ho:OwnU w' w0.heap.size vG gs) (hb:But (fun b=>vG.ownBlock=some b) W w'):Tel w0 w' tb vI vG (.slice none 0 0) ins gs []:=by
 refine ⟨⟨hb.os.trans h.below.os,hb.tape.trans h.below.tape,hb.output.trans h.below.output,qi h.below.size hb.size,fun b hb'=>?_⟩,h.lo,kp h.hI fun g hg=>hb.block g (h.hI.lt g hg).2 fun e=>own_apart (own0 h.hI) (own0 h.hG) (by decide) hg e,ho,(hb.block tb h.row.lt fun e=>xf (own0 h.hG) h.row (by decide) e rfl).trans h.row,World.ownsRow_nil _ _ _ _,fun _ _ e=>by cases e⟩;have:=h.below.size;rw [hb.block b (by omega) fun e=>by have:=(h.hG.lt b e).1;omega];exact h.below.block b hb'
def ToldP (w:World) (os:List Opn) (e:Ending) (w':World):Prop:=∃ v xs,e=.returned v∧xs.Perm (insOf os)∧xs.Pairwise (fun x y=>¬ ahd y x)∧OwnO w' w.heap.size v (tellL 1073741824 xs (goneOf os) 0)
structure Tellable (os:List Opn):Prop where
 len:os.length≤1000
 cc:∀ o∈os,ccT o
 key:∀ o∈os,o.key<1152921504606846976
 st:∀ o∈os,0≤o.st∧o.st<1073741824
 rf:∀ o∈os,0≤o.rf
 up:∀ x∈insOf os,∀ y∈insOf os,x.rf=y.key→y.st<x.st
 told:∀ xs,xs.Perm (insOf os)→xs.Pairwise (fun x y=>¬ ahd y x)→(tellL 1073741824 xs (goneOf os) 0).length≤1000000
theorem infoU64:(Tryz.prog.info? 41).map (fun i=>(i.zero,i.size,i.bytes))=some (some (U6 0),1,8):=by kernel_rfl
theorem told_any (a:Option Addr) (cap:Nat) (os:List Opn) (w:World) (hO:OpsIs w a os) (hT:Tellable os) (hS:SortU (goneOf os)):Cs 153 #[.slice a os.length cap] w fun e w'=>ToldP w os e w'∧Bel w w':=by
 obtain ⟨io,oi,oz0,oz1,oz2⟩:=info_parts infoOpB;obtain ⟨iu,ui,uz0,uz1,uz2⟩:=info_parts infoU64;have HO:Hid (OpsIs w a os):=hO;have HT:Hid (Tellable os):=hT;have HS:Hid (SortU (goneOf os)):=hS;have hn:os.length≤1000:=hT.len;have H0:Hid (Tel w (w.alloc (.cells #[.slice none 0 0,.slice none 0 0,.slice none 0 0] 306)) w.heap.size (.slice none 0 0) (.slice none 0 0) (.slice none 0 0) [] [] []):=⟨kq _ _,qb _,World.ownsRow_nil _ _ _ _,World.ownsRow_nil _ _ _ _,RowIs.last rfl rfl,World.ownsRow_nil _ _ _ _,fun _ e=>by cases e⟩;clear hO hT hS;go_enter Tryz.func153,Tryz.ntmps153;go_wp2_with fail;generalize w.alloc (.cells #[.slice none 0 0,.slice none 0 0,.slice none 0 0] 306)=w1 at *;go_loopw [10] (fun iv wr=>∃ (i:Nat) (vI vG:Value),iv=I6 i∧i≤os.length∧Hid (Tel w wr w.heap.size vI vG (.slice none 0 0) (insOf (os.take i)) (goneOf (os.take i)) [])) (fun iv _=>os.length-(intOf iv).toNat)
 case atStart=>exact ⟨0,_,_,rfl,qs _,H0⟩
 case round=>
  clear H0;obtain ⟨i,vI,vG,rfl,hi,H2⟩:=hrel;by_cases hlt:i<os.length
  ·have li:(i:Int)<(os.length:Int):=by omega
   rcases HO.out with rfl|⟨ga,off,rfl,hO⟩
   ·cases hlt
   obtain ⟨c0,c1,c2,c3,c4,c5⟩:=(hO.below H2.out.below).cells hlt;have e1:=insOf_take os hlt;have e2:=goneOf_take os hlt
   have l1:(insOf (os.take i)).length≤1000:=by
    have:=zz (fun o:Opn=>decide (o.kd=1)) (os.take i);have:=List.length_take_le' i os;unfold insOf;omega
   have l2:(goneOf (os.take i)).length≤1000:=by
    have:=zz (fun o:Opn=>decide (¬ o.kd=1)) (os.take i);have:=List.length_take_le' i os;unfold goneOf;rw [ze];omega
   have HLi:Hid ((insOf (os.take i)).length≤1000∧(goneOf (os.take i)).length≤1000):=⟨l1,l2⟩;clear l1 l2;generalize os[i]=o at *;generalize insOf (os.take i)=ins at *;generalize goneOf (os.take i)=gone at *;have HX:Hid (Tel w (wr.alloc (.cells (oC o) 43)) w.heap.size vI vG (.slice none 0 0) ins gone []∧RowIs (wr.alloc (.cells (oC o) 43)) wr.heap.size 43 6 (opV o)∧∀ g,vI.ownBlock=some g→g≠wr.heap.size):=⟨H2.out.kept (kq _ _),RowIs.last rfl rfl,fun g hg e=>by have:=(H2.out.hI.lt g hg).2;omega⟩;have HFi0:Hid (insOf (os.take (i+1))=(if o.kd=1 then ins++[o] else ins)∧goneOf (os.take (i+1))=(if o.kd=1 then gone else gone++[o.rf])):=⟨e1,e2⟩;clear e1 e2 hO H2;by_cases hk:o.kd=1
   ·have HFi:Hid (insOf (os.take (i+1))=ins++[o]∧goneOf (os.take (i+1))=gone):=by
     obtain ⟨q1,q2⟩:=HFi0.out;rw [if_pos hk] at q1 q2;exact ⟨q1,q2⟩
    have hk1:(o.kd==1)=true:=by simpa using hk
    have hk2:decide (o.kd=1)=true:=decide_eq_true hk;clear HFi0 hk;go_wp2_with fail;have HD:Hid (Tel w (wr.alloc (.cells (oC o) 43)).drew w.heap.size vI vG (.slice none 0 0) ins gone []∧RowIs (wr.alloc (.cells (oC o) 43)).drew wr.heap.size 43 6 (opV o)):=⟨HX.out.1.drew,HX.out.2.1.drew⟩;refine wp_region_held_drew (S:=fun W=>RowIs W wr.heap.size 43 6 (opV o)) (by kernel_rfl) HD.out.2 (fun hHeld=>?_);generalize World.drew _=wD at hHeld HD ⊢;refine ks 0 17 ?_;refine ks 1 18 ?_;refine ks 2 19 ?_;refine ks 3 20 ?_;refine x9 5 22 (fun _ h=>vq h) ?_;refine rd2 4 (some 21) 6 (some 23) rfl rfl (fun K hK=>?_) (fun K hK=>?_)
    ·have q2:(wD).cell? (Ad w.heap.size 0)=some vI:=HD.out.1.row.cell (j:=0) (by omega);go_simp;clear q2;refine hK.out _ _ hHeld fun hHeld=>?_;clear hK K;refine rd 6 (some 23) rfl (fun K hK=>?_);go_simp;refine hK.out _ _ (hHeld.alloc _) (fun hHeld=>?_);clear hK K;refine rd 7 (some 24) rfl (fun K hK=>?_);rw [if_pos (by rfl)];refine Ql (.tmp 21) (.tmp 23) 32 rfl w.heap.size 43 io _ 6 40 Tryz.underlying32 oi oz0 oz1 oz2 rfl (by decide) vI ins.length (opCs ins) rfl (zg HD.out.1.hI _) (Ad wD.heap.size 0) 1 1 [I6 o.kd,U3 o.cl,U3 o.ck,U3 o.st,U6 o.rf,I3 o.ch] rfl rfl (World.news_of_block (heap_alloc_new wD _)) (by simp [Value.oneCell']) (by have:=HLi.out;unfold maxLen;omega) (by have:=HLi.out;omega) (by have:=HD.out.1.below.size;simp;omega) ?_;intro v4 w4 ho4 hg4 hl4;have hM4:=HD.out.1.grownI HD.out.2 HX.out.2.2 hg4;have hA4:=Tel.appI HD.out.1.lo hM4 ho4;have t2:w4.cell? (Ad w.heap.size 0)=some vI:=hM4.row.cell (j:=0) (by omega);have f2:w4.frozen? (Ad w.heap.size 0)=false:=hM4.row.free 0;obtain ⟨a4,c4',rfl,-⟩:=xt (own0 ho4);have HS4:Hid (RowIs (w4.setCell (Ad w.heap.size 0) (.slice a4 (ins.length+1) c4')) wr.heap.size 43 6 (opV o)):=hM4.box.setOther (a:=(Ad w.heap.size 0)) (fun e=>absurd (RowIs.type_eq hM4.row ((show w.heap.size=wr.heap.size from e)▸hM4.box)) (by decide)) _;have HA4:Hid (Tel w (w4.setCell (Ad w.heap.size 0) (.slice a4 (ins.length+1) c4')) w.heap.size (.slice a4 (ins.length+1) c4') vG (.slice none 0 0) (ins++[o]) gone []):=hA4;refine hK.out _ _ hM4.box (fun hHeld=>?_);clear hK K hA4 hM4 ho4 hg4 hl4;refine ks 8 25 ?_;refine ks 9 26 ?_;refine rd 10 none rfl (fun K hK=>?_);go_simp;refine hK.out _ _ HS4.out (fun hHeld=>?_);clear hK K t2 f2;refine xy ?_;clear HS4 hHeld HD HX;generalize World.setCell w4 _ _=w5 at HA4 ⊢;go_wp2_with fail;go_roundw
     case rel=>exact ⟨i+1,_,vG,by go_num,hlt,km (by rw [HFi.out.1,HFi.out.2];exact HA4.out)⟩
     case measure=>simp [intOf];omega
    ·go_simp;refine hK.out _ _ (hHeld.alloc _) (fun hHeld=>?_);clear hK K;refine rd 4 (some 21) rfl (fun K hK=>?_);have q2:((wD.alloc (.cells (oC o) 43))).cell? (Ad w.heap.size 0)=some vI:=(HD.out.1.kept (kq _ _)).row.cell (j:=0) (by omega);go_simp;clear q2;refine hK.out _ _ hHeld fun hHeld=>?_;clear hK K;refine rd 7 (some 24) rfl (fun K hK=>?_);rw [if_pos (by rfl)];refine Ql (.tmp 21) (.tmp 23) 32 rfl w.heap.size 43 io _ 6 40 Tryz.underlying32 oi oz0 oz1 oz2 rfl (by decide) vI ins.length (opCs ins) rfl (zg HD.out.1.hI _) (Ad wD.heap.size 0) 1 1 [I6 o.kd,U3 o.cl,U3 o.ck,U3 o.st,U6 o.rf,I3 o.ch] rfl rfl (World.news_of_block (heap_alloc_new wD _)) (by simp [Value.oneCell']) (by have:=HLi.out;unfold maxLen;omega) (by have:=HLi.out;omega) (by have:=HD.out.1.below.size;simp;omega) ?_;intro v4 w4 ho4 hg4 hl4;have hM4:=HD.out.1.grownI HD.out.2 HX.out.2.2 hg4;have hA4:=Tel.appI HD.out.1.lo hM4 ho4;have t2:w4.cell? (Ad w.heap.size 0)=some vI:=hM4.row.cell (j:=0) (by omega);have f2:w4.frozen? (Ad w.heap.size 0)=false:=hM4.row.free 0;obtain ⟨a4,c4',rfl,-⟩:=xt (own0 ho4);have HS4:Hid (RowIs (w4.setCell (Ad w.heap.size 0) (.slice a4 (ins.length+1) c4')) wr.heap.size 43 6 (opV o)):=hM4.box.setOther (a:=(Ad w.heap.size 0)) (fun e=>absurd (RowIs.type_eq hM4.row ((show w.heap.size=wr.heap.size from e)▸hM4.box)) (by decide)) _;have HA4:Hid (Tel w (w4.setCell (Ad w.heap.size 0) (.slice a4 (ins.length+1) c4')) w.heap.size (.slice a4 (ins.length+1) c4') vG (.slice none 0 0) (ins++[o]) gone []):=hA4;refine hK.out _ _ hM4.box (fun hHeld=>?_);clear hK K hA4 hM4 ho4 hg4 hl4;refine ks 8 25 ?_;refine ks 9 26 ?_;refine rd 10 none rfl (fun K hK=>?_);go_simp;refine hK.out _ _ HS4.out (fun hHeld=>?_);clear hK K t2 f2;refine xy ?_;clear HS4 hHeld HD HX;generalize World.setCell w4 _ _=w5 at HA4 ⊢;go_wp2_with fail;go_roundw
     case rel=>exact ⟨i+1,_,vG,by go_num,hlt,km (by rw [HFi.out.1,HFi.out.2];exact HA4.out)⟩
     case measure=>simp [intOf];omega
   ·have HFi:Hid (insOf (os.take (i+1))=ins∧goneOf (os.take (i+1))=gone++[o.rf]):=by
     obtain ⟨q1,q2⟩:=HFi0.out;rw [if_neg hk] at q1 q2;exact ⟨q1,q2⟩
    have hk1:(o.kd==1)=false:=by simpa using hk
    have hk2:decide (o.kd=1)=false:=decide_eq_false hk;clear HFi0;go_wp2_with fail;have HD:Hid (Tel w (wr.alloc (.cells (oC o) 43)).drew w.heap.size vI vG (.slice none 0 0) ins gone []∧RowIs (wr.alloc (.cells (oC o) 43)).drew wr.heap.size 43 6 (opV o)):=⟨HX.out.1.drew,HX.out.2.1.drew⟩;refine wp_region_held_drew (S:=fun W=>RowIs W wr.heap.size 43 6 (opV o)) (by kernel_rfl) HD.out.2 (fun hHeld=>?_);generalize World.drew _=wD at hHeld HD ⊢;refine ks 0 27 ?_;refine ks 1 28 ?_;refine ks 2 29 ?_;refine ks 3 30 ?_;refine ks 5 32 ?_;refine x9 6 33 (fun _ h=>vq h) ?_;refine rd2 4 (some 31) 7 (some 34) rfl rfl (fun K hK=>?_) (fun K hK=>?_)
    ·have q2:(wD).cell? (Ad w.heap.size 1)=some vG:=HD.out.1.row.cell (j:=1) (by omega);go_simp;clear q2;refine hK.out _ _ hHeld fun hHeld=>?_;clear hK K;refine rd 7 (some 34) rfl (fun K hK=>?_);go_simp;refine hK.out _ _ (hHeld.alloc _) (fun hHeld=>?_);clear hK K;refine rd 8 (some 35) rfl (fun K hK=>?_);rw [if_pos (by rfl)];refine Ql (.tmp 31) (.tmp 34) 132 rfl w.heap.size 41 iu _ 1 8 Tryz.underlying132 ui uz0 uz1 uz2 rfl (by decide) vG gone.length (u64s gone) rfl (zg HD.out.1.hG _) (Ad wD.heap.size 0) 1 1 [U6 o.rf] rfl rfl (World.news_of_block (heap_alloc_new wD _)) (by simp [Value.oneCell']) (by have:=HLi.out;unfold maxLen;omega) (by have:=HLi.out;omega) (by have:=HD.out.1.below.size;simp;omega) ?_;intro v4 w4 ho4 hg4 hl4;have hM4:=HD.out.1.grownG HD.out.2 hg4;have hA4:=Tel.appG HD.out.1.lo hM4 ho4;have t2:w4.cell? (Ad w.heap.size 1)=some vG:=hM4.row.cell (j:=1) (by omega);have f2:w4.frozen? (Ad w.heap.size 1)=false:=hM4.row.free 1;obtain ⟨a4,c4',rfl,-⟩:=xt (own0 ho4);have HS4:Hid (RowIs (w4.setCell (Ad w.heap.size 1) (.slice a4 (gone.length+1) c4')) wr.heap.size 43 6 (opV o)):=hM4.box.setOther (a:=(Ad w.heap.size 1)) (fun e=>absurd (RowIs.type_eq hM4.row ((show w.heap.size=wr.heap.size from e)▸hM4.box)) (by decide)) _;have HA4:Hid (Tel w (w4.setCell (Ad w.heap.size 1) (.slice a4 (gone.length+1) c4')) w.heap.size vI (.slice a4 (gone.length+1) c4') (.slice none 0 0) ins (gone++[o.rf]) []):=hA4;refine hK.out _ _ hM4.box (fun hHeld=>?_);clear hK K hA4 hM4 ho4 hg4 hl4;refine ks 9 36 ?_;refine ks 10 37 ?_;refine rd 11 none rfl (fun K hK=>?_);go_simp;refine hK.out _ _ HS4.out (fun hHeld=>?_);clear hK K t2 f2;refine xy ?_;clear HS4 hHeld HD HX;generalize World.setCell w4 _ _=w5 at HA4 ⊢;go_wp2_with fail;go_roundw
     case rel=>exact ⟨i+1,vI,_,by go_num,hlt,km (by rw [HFi.out.1,HFi.out.2];exact HA4.out)⟩
     case measure=>simp [intOf];omega
    ·go_simp;refine hK.out _ _ (hHeld.alloc _) (fun hHeld=>?_);clear hK K;refine rd 4 (some 31) rfl (fun K hK=>?_);have q2:((wD.alloc (.cells #[U6 o.rf] 41))).cell? (Ad w.heap.size 1)=some vG:=(HD.out.1.kept (kq _ _)).row.cell (j:=1) (by omega);go_simp;clear q2;refine hK.out _ _ hHeld fun hHeld=>?_;clear hK K;refine rd 8 (some 35) rfl (fun K hK=>?_);rw [if_pos (by rfl)];refine Ql (.tmp 31) (.tmp 34) 132 rfl w.heap.size 41 iu _ 1 8 Tryz.underlying132 ui uz0 uz1 uz2 rfl (by decide) vG gone.length (u64s gone) rfl (zg HD.out.1.hG _) (Ad wD.heap.size 0) 1 1 [U6 o.rf] rfl rfl (World.news_of_block (heap_alloc_new wD _)) (by simp [Value.oneCell']) (by have:=HLi.out;unfold maxLen;omega) (by have:=HLi.out;omega) (by have:=HD.out.1.below.size;simp;omega) ?_;intro v4 w4 ho4 hg4 hl4;have hM4:=HD.out.1.grownG HD.out.2 hg4;have hA4:=Tel.appG HD.out.1.lo hM4 ho4;have t2:w4.cell? (Ad w.heap.size 1)=some vG:=hM4.row.cell (j:=1) (by omega);have f2:w4.frozen? (Ad w.heap.size 1)=false:=hM4.row.free 1;obtain ⟨a4,c4',rfl,-⟩:=xt (own0 ho4);have HS4:Hid (RowIs (w4.setCell (Ad w.heap.size 1) (.slice a4 (gone.length+1) c4')) wr.heap.size 43 6 (opV o)):=hM4.box.setOther (a:=(Ad w.heap.size 1)) (fun e=>absurd (RowIs.type_eq hM4.row ((show w.heap.size=wr.heap.size from e)▸hM4.box)) (by decide)) _;have HA4:Hid (Tel w (w4.setCell (Ad w.heap.size 1) (.slice a4 (gone.length+1) c4')) w.heap.size vI (.slice a4 (gone.length+1) c4') (.slice none 0 0) ins (gone++[o.rf]) []):=hA4;refine hK.out _ _ hM4.box (fun hHeld=>?_);clear hK K hA4 hM4 ho4 hg4 hl4;refine ks 9 36 ?_;refine ks 10 37 ?_;refine rd 11 none rfl (fun K hK=>?_);go_simp;refine hK.out _ _ HS4.out (fun hHeld=>?_);clear hK K t2 f2;refine xy ?_;clear HS4 hHeld HD HX;generalize World.setCell w4 _ _=w5 at HA4 ⊢;go_wp2_with fail;go_roundw
     case rel=>exact ⟨i+1,vI,_,by go_num,hlt,km (by rw [HFi.out.1,HFi.out.2];exact HA4.out)⟩
     case measure=>simp [intOf];omega
  ·have li:¬ (i:Int)<(os.length:Int):=by omega
   obtain rfl:i=os.length:=by omega
   have h2:=H2.out;rw [jw] at h2;have HI:Hid (Calls _ _ _ _ _):=sortF_any w.heap.size vI (insOf os) wr h2.hI (fun o ho=>HT.out.cc o (qo.1 ho).1) (by have:=zz (fun o:Opn=>decide (o.kd=1)) os;unfold insOf;omega);have H3:Hid (Tel w wr w.heap.size vI vG (.slice none 0 0) (insOf os) (goneOf os) []):=h2;have t0:wr.cell? (Ad w.heap.size 0)=some vI:=h2.row.cell (j:=0) (by omega)
   have HTT:Hid (∀ (xs:List Opn) (gs:List Int) (W:World),xs.Perm (insOf os)→xs.Pairwise (fun x y=>¬ ahd y x)→gs.Perm (goneOf os)→gs.Pairwise (·≤·)→Tel w W w.heap.size vI vG (.slice none 0 0) xs gs []→Cs 221 #[(pt w.heap.size 0),U6 0] W fun e w'=>e=.returned (.tuple #[])∧∃ vT',Tel w w' w.heap.size vI vG vT' xs gs (tellL 1073741824 xs (goneOf os) 0)):=by
    intro xs gs W p1 p2 p3 p4 hW;have hmem:∀ o∈xs,o∈insOf os:=fun o ho=>p1.mem_iff.1 ho;have hmo:∀ o∈xs,o∈os:=fun o ho=>(qo.1 (hmem o ho)).1;have hl1:=p1.length_eq;have hl2:=p3.length_eq;have hl3:=zz (fun o:Opn=>decide (o.kd=1)) os
    have hl4:(goneOf os).length≤os.length:=by
     unfold goneOf;rw [ze];exact zz _ _
    have e1:=tellL_gone 1073741824 xs p3 0;have:=tell_any vI vG w.heap.size xs gs w (by unfold insOf at hl1;omega) (by omega) (p2.via fun {x y} h=>by unfold ahd at h;omega) p4 (fun o ho=>HT.out.cc o (hmo o ho)) (fun o ho=>HT.out.key o (hmo o ho)) 1073741824 (fun o ho=>(HT.out.st o (hmo o ho)).2) (fun x hx y hy=>HT.out.up x (hmem x hx) y (hmem y hy)) 1073741824 0 [] (.slice none 0 0) W (by decide) (by decide) (fun x hx _=>by have:=(HT.out.st x (hmo x hx)).1;omega) (by rw [e1,qv,q9];exact HT.out.told xs p1 p2) hW;rw [e1] at this;exact this
   clear h2 H2
   go_wp2_with (first
    | (go_at_call 218;refine HI.out.mono ?_;rintro e w3 ⟨rfl,xs,hp,hso,hox,hbx⟩;have H4:Hid (Tel w w3 w.heap.size vI vG (.slice none 0 0) xs (goneOf os) []):=H3.out.sortedI hox hbx;have HP:Hid (xs.Perm (insOf os)∧xs.Pairwise (fun x y=>¬ ahd y x)):=⟨hp,hso⟩;have g1:w3.cell? (Ad w.heap.size 1)=some vG:=H4.out.row.cell (j:=1) (by omega);clear hp hso hox hbx)
    | (go_at_call 220;refine (HS.out _ _ _ H4.out.hG).mono ?_;rintro e w4 ⟨rfl,gs,hpg,hsg,hog,hbg⟩;have H5:Hid (Tel w w4 w.heap.size vI vG (.slice none 0 0) xs gs []):=H4.out.sortedG hog hbg;have HQ:Hid (gs.Perm (goneOf os)∧gs.Pairwise (·≤·)):=⟨hpg,hsg⟩;clear hpg hsg hog hbg)
    | (go_at_call 221;refine (HTT.out xs gs w4 HP.out.1 HP.out.2 HQ.out.1 HQ.out.2 H5.out).mono ?_;rintro e w5 ⟨rfl,vT5,h5⟩;have t2:w5.cell? (Ad w.heap.size 2)=some vT5:=h5.row.cell (j:=2) (by omega);have H6:Hid (OwnO w5 w.heap.size vT5 (tellL 1073741824 xs (goneOf os) 0)∧Bel w w5):=⟨h5.hT,h5.below⟩;clear h5))
   go_ret;exact ⟨⟨vT5,xs,rfl,HP.out.1,HP.out.2,H6.out.1⟩,H6.out.2⟩

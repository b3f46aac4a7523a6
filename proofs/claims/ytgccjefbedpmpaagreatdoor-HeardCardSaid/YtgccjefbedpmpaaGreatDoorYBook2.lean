import Derived.Test.YtgccjefbedpmpaaGreatDoorYRep1
import Derived.Test.YtgccjefbedpmpaaGreatDoorYStr
namespace Go.Proofs.YtgccjefbedpmpaaGreatDoor
open Go.RowKit Go.MuLone
set_option maxRecDepth 100000
set_option maxHeartbeats 8000000
variable {X : Nat→Prop} {b : Nat} {cl ss : Int} {o : Opn} {vK vW : Value} {w' : World}
theorem waits1_any (o:Opn) (tg:Int) (hc:ccT o) (w:World):Cs 167 #[.agg (oC o),U6 tg] w fun e w'=>e=.returned (I6 (cmpI o.key tg))∧Bel w w':=by
 have HK:Hid (∀ W,Cs 93 #[.agg (oC o)] W fun e w'=>e=.returned (U6 o.key)∧Bel W w'):=fun W=>kz o.kd o.cl o.ck o.st o.rf o.ch hc.1 hc.2 W;have hB:Bel w (w.alloc (.cells (oC o) 43)):=kq _ _;go_enter Tryz.func167,Tryz.ntmps167
 go_wp2_with (first
  | (go_at_call 93;refine (HK.out _).mono ?_;rintro e w1 ⟨rfl,hb1⟩)
  | (go_at_call 168;refine (cmp64 _ _ _).mono ?_;rintro e w2 ⟨rfl,rfl⟩))
 go_ret;exact ⟨rfl,hB.trans (hb1.mono hB.size)⟩
def ByKey (os:List Opn):Prop:=os.Pairwise fun x y=>x.key < y.key
theorem ByKey.bs {os:List Opn} (h:ByKey os) (tg:Int):BsM (fun o=>cmpI o.key tg) os:=fun p q hpq hq hc=>by
 have h1:=zl.1 h p q (by omega) hq hpq;have h2:=(cmpL _ _).1 hc;exact (cmpL _ _).2 (by omega)
theorem Qv (b:Nat) (st cl ss:Int) (top vK:Value) (a:Option Addr) (cap:Nat) (W:List Opn) (k:Int) (w:World) (h:RowIs w b 118 7 (rep7 st cl top (.slice a W.length cap) ss vK)) (hO:OpsIs w a W) (hn:W.length < 4611686018427387904) (hs:ByKey W) (hc:∀ o∈W,ccT o) :
  Cs 95 #[(pt b 2),U6 k] w fun e w'=>(∃ i,BsP (fun o=>cmpI o.key k) W i∧e=.returned (.tuple #[I6 i,.bool (bsF (fun o=>cmpI o.key k) W i)]))∧Bel w w':=by
 have c4:w.cell? (Ad b 4)=some (.slice a W.length cap):=h.cell (j:=4) (by omega);have HB:Hid (Calls _ _ _ _ _):=bsf_any 167 (fun o=>cmpI o.key k) k a cap W w (enters_of Tryz.func167 (by kernel_rfl) rfl) (fun o ho V=>waits1_any o k (hc o ho) V) hO hn (hs.bs k);clear h hO hn hs hc;go_enter Tryz.func95,Tryz.ntmps95;go_wp2_with (go_at_call 166;refine HB.out.mono ?_;rintro e w1 ⟨⟨i,hi,rfl⟩,hb1⟩);go_ret2;exact ⟨⟨i,hi,rfl⟩,hb1⟩
structure TextOk (os:List Opn):Prop where
 tell:Tellable os
 sort:SortU (goneOf os)
 ch:∀ o∈os,-2147483648≤o.ch∧o.ch≤2147483647
theorem bText_any (b:Nat) (st cl ss:Int) (top vW vK:Value) (t:Tr) (w:World) (h:RowIs w b 118 7 (rep7 st cl top vW ss vK)) (hI:IsTr w top t) (hT:TextOk t.list):Cs 54 #[(pt b 2)] w fun e w'=>StrP t.list e∧Bel w w':=by
 obtain ⟨p0,rfl⟩:=hI.ptr;have c3:w.cell? (Ad b 3)=some (.pointer p0):=h.cell (j:=3) (by omega);have HS:Hid (Calls _ _ _ _ _):=sOps_any t _ w hI (by have:=hT.tell.len;omega);have HT:Hid (TextOk t.list):=hT;clear h hI hT;go_enter Tryz.func54,Tryz.ntmps54
 go_wp2_with (first
  | (go_at_call 100;refine HS.out.mono ?_;rintro e w1 ⟨⟨s,rfl,ho⟩,hb1⟩;obtain ⟨a1,c1,rfl,-⟩:=xt (own0 ho);have HO:Hid (OwnO w1 w.heap.size (.slice a1 t.list.length c1) t.list∧Bel w w1):=⟨ho,hb1⟩;clear ho hb1)
  | (go_at_call 101;refine (string_any a1 c1 t.list _ (OwnO.is HO.out.1) HT.out.tell HT.out.sort HT.out.ch).mono ?_;rintro e w2 ⟨⟨xs,hp,hs,rfl⟩,hb2⟩;have HP:Hid (xs.Perm (insOf t.list)∧xs.Pairwise (fun x y=>¬ ahd y x)):=⟨hp,hs⟩;clear hp hs))
 go_ret;exact ⟨⟨xs,HP.out.1,HP.out.2,rfl⟩,HO.out.2.trans (hb2.mono HO.out.2.size)⟩
theorem rText_any (b:Nat) (cl ss:Int) (top vW vK:Value) (t:Tr) (w:World) (h:RowIs w b 118 7 (rep7 0 cl top vW ss vK)) (hI:IsTr w top t) (hT:TextOk t.list):Cs 26 #[(pt b 0)] w fun e w'=>StrP t.list e∧RowIs w' b 118 7 (rep7 0 cl top vW ss vK)∧But (fun x=>x=b) w w':=by
 have c0:w.cell? (Ad b 0)=some (I3 0):=h.cell (j:=0) (by omega);have f0:=h.free 0;have h1:=rep_lock h;have hI1:IsTr (w.setCell (Ad b 0) (I3 1)) top t:=Qf h (by decide) (But.set b 0 _) hI;have HS:Hid (Calls _ _ _ _ _):=bText_any b 1 cl ss top vW vK t _ h1 hI1 hT;have H1:Hid (RowIs (w.setCell (Ad b 0) (I3 1)) b 118 7 (rep7 1 cl top vW ss vK)):=h1;clear h h1 hI hI1 hT;go_enter_defers Tryz.func26,Tryz.ntmps26
 go_wp2_with (first
  | (go_at_call 49;refine (lock_free Qk (Ad b 0) _ c0 f0).mono ?_;rintro e w' ⟨rfl,rfl⟩)
  | (go_at_call 54;refine HS.out.mono ?_;rintro e w2 ⟨⟨xs,hp,hs,rfl⟩,hb2⟩;have HP:Hid (xs.Perm (insOf t.list)∧xs.Pairwise (fun x y=>¬ ahd y x)):=⟨hp,hs⟩;clear hp hs))
 refine leaves_cons (f:=50) (args:=#[(pt b 0)]) (by simp) (by simp [go_sem]) ?_;have h2:=H1.out.below hb2 H1.out.lt;refine (unlock_deferred Qk (Ad b 0) .returning _ (h2.cell (j:=0) (by omega)) (h2.free 0)).mono ?_;rintro e u' w'' ⟨rfl,rfl,rfl⟩;exact ⟨_,results_tmp rfl _ _ _,⟨xs,HP.out.1,HP.out.2,rfl⟩,rep_unlock h2,((But.set b 0 _).trans (But.below hb2)).trans (But.set b 0 _)⟩
theorem rep_top {w:World} {st:Int} {top:Value} (h:RowIs w b 118 7 (rep7 st cl top vW ss vK)) (v:Value):RowIs (w.setCell (Ad b 3) v) b 118 7 (rep7 st cl v vW ss vK):=(h.set 3 v).congr fun j _=>by
 match j with
 | 0=>rfl
 | 1=>rfl
 | 2=>rfl
 | 3=>rfl
 | 4=>rfl
 | 5=>rfl
 | _+6=>rfl
structure WrS (w W:World) (b:Nat) (st cl ss:Int) (top vW vK:Value) (o:Opn):Prop where
 below:Bel w W
 row:RowIs W b 118 7 (rep7 st cl top vW ss vK)
 box:RowIs W w.heap.size 43 6 (opV o)
 res:RowIs W (w.heap.size+1) 43 6 (opV o0)
theorem WrS.kept {w W W2:World} {st:Int} {top:Value} (h:WrS w W b st cl ss top vW vK o) (hb:Bel W W2):WrS w W2 b st cl ss top vW vK o:=⟨h.below.trans (hb.mono h.below.size),h.row.below hb h.row.lt,h.box.below hb h.box.lt,h.res.below hb h.res.lt⟩
theorem WrS.c3 {w W:World} {st:Int} {top:Value} (h:WrS w W b st cl ss top vW vK o):W.cell? (Ad b 3)=some top:=h.row.cell (j:=3) (by omega)
theorem WrS.c2 {w W:World} {st:Int} {top:Value} (h:WrS w W b st cl ss top vW vK o):W.cell? (Ad b 2)=some (U3 cl):=h.row.cell (j:=2) (by omega)
theorem WrS.new (w:World) {st:Int} {top:Value} (o:Opn) (h:RowIs w b 118 7 (rep7 st cl top vW ss vK)):WrS w ((w.alloc (.cells (oC o) 43)).alloc (.cells oZ 43)) b st cl ss top vW vK o:=by
 have hz:(w.alloc (.cells (oC o) 43)).heap.size=w.heap.size+1:=by simp
 have r1:=RowIs.last (w:=w) (t:=43) (f:=opV o) (n:=6) (cs:=(oC o)) rfl rfl;have r2:=RowIs.last (w:=w.alloc (.cells (oC o) 43)) (t:=43) (f:=opV o0) (n:=6) (cs:=oZ) rfl rfl;rw [hz] at r2;have b1:Bel w (w.alloc (.cells (oC o) 43)):=kq _ _;exact ⟨b1.alloc b1.size _,(h.alloc _).alloc _,r1.alloc _,r2⟩
theorem But.putRow {w W:World} (h:But X w W) {g:Nat} (hg:w.heap.size≤g) (cs:Array Value):But X w (W.setRow g cs):=⟨by have:=h.size;simp;omega,h.os,h.tape,h.output,fun i hi hx=>(setRow_other _ _ _ _ (by omega)).trans (h.block i hi hx)⟩
theorem WrS.put {w W:World} {st:Int} {top:Value} (h:WrS w W b st cl ss top vW vK o) (hb:b < w.heap.size) (c k s:Int):WrS w (((W.setCell (Ad w.heap.size 1) (U3 c)).setCell (Ad w.heap.size 2) (U3 k)).setCell (Ad w.heap.size 3) (U3 s)) b st cl ss top vW vK ⟨o.kd,c,k,s,o.rf,o.ch⟩:=by
 refine ⟨((h.below.setCell (p:=(Ad w.heap.size 1)) (qb _) _).setCell (p:=(Ad w.heap.size 2)) (qb _) _).setCell (p:=(Ad w.heap.size 3)) (qb _) _,((h.row.setOther (a:=(Ad w.heap.size 1)) (fun e=>by have:w.heap.size=b:=e;omega) _).setOther (a:=(Ad w.heap.size 2)) (fun e=>by have:w.heap.size=b:=e;omega) _).setOther (a:=(Ad w.heap.size 3)) (fun e=>by have:w.heap.size=b:=e;omega) _,?_,((h.res.setOther (a:=(Ad w.heap.size 1)) (fun e=>by have:w.heap.size=w.heap.size+1:=e;omega) _).setOther (a:=(Ad w.heap.size 2)) (fun e=>by have:w.heap.size=w.heap.size+1:=e;omega) _).setOther (a:=(Ad w.heap.size 3)) (fun e=>by have:w.heap.size=w.heap.size+1:=e;omega) _⟩;refine (((h.box.set 1 _).set 2 _).set 3 _).congr fun j hj=>?_
 match j,hj with
 | 0,_=>rfl
 | 1,_=>rfl
 | 2,_=>rfl
 | 3,_=>rfl
 | 4,_=>rfl
 | 5,_=>rfl
theorem Env.frame {w:World} (h:Env w) (hs:w.heap.size≤w'.heap.size) (hb:∀ g,g < 15→w'.heap[g]?=w.heap[g]?):Env w':=by
 have k:∀ g,g < 15→(∃ a,w.cell? (Ad g 0)=some (.iface 435 (.pointer (some a))))→∃ a,w'.cell? (Ad g 0)=some (.iface 435 (.pointer (some a))):=fun g hg ⟨a,e⟩=>⟨a,(qz (hb g hg)).trans e⟩;refine ⟨⟨k _ (by decide) h.sents.bounds,k _ (by decide) h.sents.own,k _ (by decide) h.sents.order,k _ (by decide) h.sents.extra,k _ (by decide) h.sents.count,k _ (by decide) h.sents.short,k _ (by decide) h.sents.more,k _ (by decide) h.sents.long,k _ (by decide) h.sents.check,k _ (by decide) h.sents.other⟩,?_,(qz (hb 1 (by decide))).trans h.handle,ql h.glt hs,fun j hj=>(qz (hb 11 (by decide))).trans (h.table j hj)⟩;obtain ⟨t,f,q⟩:=h.tens;exact ⟨t,f,(hb 12 (by decide)).trans q⟩
theorem Env.but {w:World} (h:Env w) (hb:But X w w') (hX:∀ b,X b→15≤b) (hs:15≤w.heap.size):Env w':=h.frame hb.size fun g hg=>hb.block g (by omega) fun e=>by have:=hX g e;omega

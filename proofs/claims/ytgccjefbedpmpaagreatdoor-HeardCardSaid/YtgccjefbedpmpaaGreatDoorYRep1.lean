import Derived.Test.YtgccjefbedpmpaaGreatDoorYIter
namespace Go.Proofs.YtgccjefbedpmpaaGreatDoor
open Go.RowKit Go.MuLone
set_option maxRecDepth 100000
set_option maxHeartbeats 8000000
variable {b i : Nat} {cl ss : Int} {o : Opn} {os : List Opn} {p0 : Option Addr} {vK vW : Value}
def rep7 (st cl:Int) (top vW:Value) (ss:Int) (vK:Value):Nat→Value
 | 0=>I3 st
 | 1=>U3 0
 | 2=>U3 cl
 | 3=>top
 | 4=>vW
 | 5=>U3 ss
 | _=>vK
theorem rep_unlock {w:World} {top:Value} (h:RowIs w b 118 7 (rep7 1 cl top vW ss vK)):RowIs (w.setCell (Ad b 0) (I3 0)) b 118 7 (rep7 0 cl top vW ss vK):=(h.set 0 (I3 0)).congr fun j _=>by
 match j with
 | 0=>rfl
 | 1=>rfl
 | 2=>rfl
 | 3=>rfl
 | 4=>rfl
 | 5=>rfl
 | _+6=>rfl
theorem But.set {w:World} (b k:Nat) (v:Value):But (fun x=>x=b) w (w.setCell (Ad b k) v):=
 ⟨by simp [World.setCell],rfl,rfl,rfl,fun i _ hi=>Below.heap_setCell _ _ _ _ fun e=>hi e⟩
theorem bWaiting_any (b:Nat) (st cl ss:Int) (top vK:Value) (a:Option Addr) (n c:Nat) (w:World) (h:RowIs w b 118 7 (rep7 st cl top (.slice a n c) ss vK)):Cs 53 #[(pt b 2)] w fun e w'=>e=.returned (I6 n)∧w'=w:=by
 have c4:w.cell? (Ad b 4)=some (.slice a n c):=h.cell (j:=4) (by omega);go_enter Tryz.func53,Tryz.ntmps53;go_wp2;go_ret;exact ⟨rfl,rfl⟩
theorem rWaiting_any (b:Nat) (cl ss:Int) (top vK:Value) (a:Option Addr) (n c:Nat) (w:World) (h:RowIs w b 118 7 (rep7 0 cl top (.slice a n c) ss vK)):Cs 25 #[(pt b 0)] w fun e w'=>e=.returned (I6 n)∧RowIs w' b 118 7 (rep7 0 cl top (.slice a n c) ss vK)∧But (fun x=>x=b) w w':=by
 have c0:w.cell? (Ad b 0)=some (I3 0):=h.cell (j:=0) (by omega);have f0:=h.free 0
 have h1:RowIs (w.setCell (Ad b 0) (I3 1)) b 118 7 (rep7 1 cl top (.slice a n c) ss vK):=(h.set 0 (I3 1)).congr fun j _=>by
  match j with
  | 0=>rfl
  | 1=>rfl
  | 2=>rfl
  | 3=>rfl
  | 4=>rfl
  | 5=>rfl
  | _+6=>rfl
 have HW:Hid (Cs 53 #[(pt b 2)] (w.setCell (Ad b 0) (I3 1)) fun e w'=>e=.returned (I6 n)∧w'=w.setCell (Ad b 0) (I3 1)):=bWaiting_any b 1 cl ss top vK a n c _ h1;go_enter_defers Tryz.func25,Tryz.ntmps25
 go_wp2_with (first
  | (go_at_call 49;refine (lock_free Qk (Ad b 0) _ c0 f0).mono ?_;rintro e w' ⟨rfl,rfl⟩)
  | (go_at_call 53;refine HW.out.mono ?_;rintro e w2 ⟨rfl,rfl⟩))
 refine leaves_cons (f:=50) (args:=#[(pt b 0)]) (by simp) (by simp [go_sem]) ?_;refine (unlock_deferred Qk (Ad b 0) .returning _ (h1.cell (j:=0) (by omega)) (h1.free 0)).mono ?_;rintro e u' w'' ⟨rfl,rfl,rfl⟩;exact ⟨_,results_tmp rfl _ _ _,rfl,rep_unlock h1,(But.set b 0 _).trans (But.set b 0 _)⟩
theorem rep_lock {w:World} {top:Value} (h:RowIs w b 118 7 (rep7 0 cl top vW ss vK)):RowIs (w.setCell (Ad b 0) (I3 1)) b 118 7 (rep7 1 cl top vW ss vK):=(h.set 0 (I3 1)).congr fun j _=>by
 match j with
 | 0=>rfl
 | 1=>rfl
 | 2=>rfl
 | 3=>rfl
 | 4=>rfl
 | 5=>rfl
 | _+6=>rfl
theorem Qf {w w':World} {b n:Nat} {T:TypeId} {f:Nat→Value} (hr:RowIs w b T n f) (hT:T≠318) (hb:But (fun x=>x=b) w w'):∀ {t:Tr} {v:Value},IsTr w v t→IsTr w' v t
 | ⟨none⟩,_,h=>h
 | ⟨some (_,_,_,_)⟩,_,⟨c,vl,vr,e,hc,h1,h2⟩=>⟨c,vl,vr,e,(hb.block c hc.lt fun e=>hT (RowIs.type_eq hr (e▸hc))).trans hc,Qf hr hT hb h1,Qf hr hT hb h2⟩
theorem ownO_set {w:World} {B:Nat} {v:Value} (h:OwnO w B v os) {o:Nat} (ho:o<B) (k:Nat) (x:Value):OwnO (w.setCell (Ad o k) x) B v os:=kp h fun g hg=>Below.heap_setCell _ _ _ _ fun e=>by have h1:=(qf h g hg).1;have h2:g=o:=e;omega
theorem infoBook:(Tryz.prog.info? 105).map (·.size)=some 3:=by kernel_rfl
theorem bNew_any (cl:Int) (w:World):Cs 48 #[U3 cl] w fun e w'=>e=.returned (.agg #[U3 cl,.pointer none,.slice none 0 0])∧Bel w w':=by
 go_enter Tryz.func48,Tryz.ntmps48;go_wp2;exact bodyPost_ret (results_cell_row Tryz.results48 _ _ w.heap.size 105 _ (0,0) _ rfl (heap_alloc_new w _) Tryz.underlying105 rfl infoBook) rfl ⟨rfl,(qj _ _).alloc (qb _) _⟩
def NewP (cl:Int) (w:World) (e:Ending) (w':World):Prop:=if 1≤cl∧cl≤1048575 then ∃ b,e=.returned (.tuple #[(pt b 0),I6 0])∧w.heap.size≤b∧RowIs w' b 118 7 (rep7 0 cl (.pointer none) (.slice none 0 0) 0 (.slice none 0 0)) else e=.returned (.tuple #[.pointer none,I6 1])
theorem new_any (cl:Int) (w:World):Cs 20 #[U3 cl] w fun e w'=>NewP cl w e w'∧Bel w w':=by
 have hC:=isClient_any cl;by_cases h:1≤cl∧cl≤1048575
 ·rw [decide_eq_true h.1,decide_eq_true h.2] at hC;have HC:Hid (∀ W,Cs 47 #[U3 cl] W fun e w'=>e=.returned (.bool true)∧w'=W):=hC;have HH:Hid (1≤cl∧cl≤1048575):=h;clear hC h;go_enter Tryz.func20,Tryz.ntmps20
  go_wp2_with (first
   | (go_at_call 47;refine (HC.out _).mono ?_;rintro e w1 ⟨rfl,rfl⟩)
   | (go_at_call 48;refine (bNew_any cl _).mono ?_;rintro e w2 ⟨rfl,hb2⟩))
  go_ret2;refine ⟨?_,hb2.alloc hb2.size _⟩;unfold NewP;rw [if_pos HH.out];exact ⟨_,rfl,hb2.size,RowIs.last rfl rfl⟩
 ·have hf:(decide (1≤cl)&&decide (cl≤1048575))=false:=by
   rw [← Bool.decide_and,decide_eq_false h]
  rw [hf] at hC;have HC:Hid (∀ W,Cs 47 #[U3 cl] W fun e w'=>e=.returned (.bool false)∧w'=W):=hC;have HH:Hid (¬ (1≤cl∧cl≤1048575)):=h;clear hC h hf;go_enter Tryz.func20,Tryz.ntmps20
  go_wp2_with (first
   | (go_at_call 47;refine (HC.out _).mono ?_;rintro e w1 ⟨rfl,rfl⟩))
  go_ret2;refine ⟨?_,qj _ _⟩;unfold NewP;rw [if_neg HH.out];rfl
theorem bOps_any (b:Nat) (st cl ss:Int) (top vW vK:Value) (t:Tr) (w:World) (h:RowIs w b 118 7 (rep7 st cl top vW ss vK)) (hI:IsTr w top t) (hs:t.list.length≤1000000):Cs 52 #[(pt b 2)] w fun e w'=>(∃ s,e=.returned s∧OwnO w' w.heap.size s t.list)∧Bel w w':=by
 obtain ⟨p0,rfl⟩:=hI.ptr;have c3:w.cell? (Ad b 3)=some (.pointer p0):=h.cell (j:=3) (by omega);have HS:Hid (Calls _ _ _ _ _):=sOps_any t _ w hI hs;clear h hI hs;go_enter Tryz.func52,Tryz.ntmps52;go_wp2_with (go_at_call 100;refine HS.out.mono ?_;rintro e w1 ⟨⟨s,rfl,ho⟩,hb1⟩);go_ret;exact ⟨⟨_,rfl,ho⟩,hb1⟩
theorem rOps_any (b:Nat) (cl ss:Int) (top vW vK:Value) (t:Tr) (w:World) (h:RowIs w b 118 7 (rep7 0 cl top vW ss vK)) (hI:IsTr w top t) (hs:t.list.length≤1000000):Cs 23 #[(pt b 0)] w fun e w'=>(∃ s,e=.returned s∧OwnO w' w.heap.size s t.list)∧RowIs w' b 118 7 (rep7 0 cl top vW ss vK)∧But (fun x=>x=b) w w':=by
 have c0:w.cell? (Ad b 0)=some (I3 0):=h.cell (j:=0) (by omega);have f0:=h.free 0;have h1:=rep_lock h;have hz:(w.setCell (Ad b 0) (I3 1)).heap.size=w.heap.size:=by simp [World.setCell]
 have HW:Hid (Cs 52 #[(pt b 2)] (w.setCell (Ad b 0) (I3 1)) fun e w'=>(∃ s,e=.returned s∧OwnO w' w.heap.size s t.list)∧Below (w.setCell (Ad b 0) (I3 1)).heap.size (w.setCell (Ad b 0) (I3 1)) w'):=by
  have:=bOps_any b 1 cl ss top vW vK t _ h1 (Qf h (by decide) (But.set b 0 _) hI) hs;unfold Bel at this;rw [hz] at this;rw [hz];exact this
 have H1:Hid (RowIs (w.setCell (Ad b 0) (I3 1)) b 118 7 (rep7 1 cl top vW ss vK)∧b<w.heap.size):=⟨h1,h.lt⟩;clear h1 h hI hs hz;go_enter_defers Tryz.func23,Tryz.ntmps23
 go_wp2_with (first
  | (go_at_call 49;refine (lock_free Qk (Ad b 0) _ c0 f0).mono ?_;rintro e w' ⟨rfl,rfl⟩)
  | (go_at_call 52;refine HW.out.mono ?_;rintro e w2 ⟨⟨s,rfl,ho⟩,hb2⟩;have h2:=H1.out.1.below hb2 H1.out.1.lt;have HO:Hid (OwnO w2 w.heap.size s t.list):=ho;clear ho))
 refine leaves_cons (f:=50) (args:=#[(pt b 0)]) (by simp) (by simp [go_sem]) ?_;refine (unlock_deferred Qk (Ad b 0) .returning _ (h2.cell (j:=0) (by omega)) (h2.free 0)).mono ?_;rintro e u' w'' ⟨rfl,rfl,rfl⟩;exact ⟨_,results_tmp rfl _ _ _,⟨_,rfl,ownO_set HO.out H1.out.2 0 _⟩,rep_unlock h2,((But.set b 0 _).trans (But.below hb2)).trans (But.set b 0 _)⟩
def lastC (cl:Int):List Opn→Int→Int
 | [],m=>m
 | o::os,m=>lastC cl os (if o.cl=cl then max m o.ck else m)
def lastS:List Opn→Int→Int
 | [],m=>m
 | o::os,m=>lastS os (max m o.st)
theorem lastC_drop (cl:Int) (os:List Opn) (h:i<os.length) (m:Int):lastC cl (os.drop i) m=lastC cl (os.drop (i+1)) (if os[i].cl=cl then max m os[i].ck else m):=by
 rw [yw h];rfl
theorem lastS_drop (os:List Opn) (h:i<os.length) (m:Int):lastS (os.drop i) m=lastS (os.drop (i+1)) (max m os[i].st):=by
 rw [yw h];rfl
theorem isSpent_any (c s:Int) (w:World):Cs 223 #[U3 c,U3 s] w fun e w'=>e=.returned (.bool (decide (1048575≤c)||decide (1073741823≤s)))∧w'=w:=by
 by_cases h1:1048575≤c<;>by_cases h2:1073741823≤s
 all_goals (
  go_enter Tryz.func223,Tryz.ntmps223;go_wp2;go_ret
  exact ⟨by simp [h1,h2],rfl⟩)
theorem isFull_any (b:Nat) (st cl ss:Int) (top vW vK:Value) (t:Tr) (w:World) (h:RowIs w b 118 7 (rep7 st cl top vW ss vK)) (hI:IsTr w top t) (hs:t.size≤1000000):Cs 97 #[(pt b 2)] w fun e w'=>e=.returned (.bool (decide (120≤t.size)))∧Bel w w':=by
 obtain ⟨p0,rfl⟩:=hI.ptr;have c3:w.cell? (Ad b 3)=some (.pointer p0):=h.cell (j:=3) (by omega);have HS:Hid (Calls _ _ _ _ _):=sLen_any t _ w hI (by omega)
 have e1:decide ((120:Int)≤(t.size:Int))=decide (120≤t.size):=by
  by_cases h:120≤t.size
  ·rw [decide_eq_true h,decide_eq_true (by omega)]
  ·rw [decide_eq_false h,decide_eq_false (by omega)]
 have HE:Hid (decide ((120:Int)≤(t.size:Int))=decide (120≤t.size)):=e1;clear h hI hs e1;go_enter Tryz.func97,Tryz.ntmps97;go_wp2_with (go_at_call 116;refine HS.out.mono ?_;rintro e w1 ⟨rfl,hb1⟩);go_ret;exact ⟨by rw [← HE.out];rfl,hb1⟩
theorem last_any (cl:Int) (os:List Opn) (a:Option Addr) (c:Nat) (w:World) (hO:OpsIs w a os) (hn:os.length≤1000000):Cs 222 #[.slice a os.length c,U3 cl] w fun e w'=>e=.returned (.tuple #[U3 (lastC cl os 0),U3 (lastS os 0)])∧Bel w w':=by
 have HO:Hid (OpsIs w a os):=hO;generalize hRC:lastC cl os 0=RC;generalize hRS:lastS os 0=RS;have HR:Hid (lastC cl os 0=RC∧lastS os 0=RS):=⟨hRC,hRS⟩;clear hO hRC hRS;go_enter Tryz.func222,Tryz.ntmps222;go_wp2;go_loopw [6,7,12] (fun cv sv iv wr=>∃ (i:Nat) (mc ms:Int),i≤os.length∧cv=U3 mc∧sv=U3 ms∧iv=I6 i∧lastC cl (os.drop i) mc=RC∧lastS (os.drop i) ms=RS∧Bel w wr) (fun _ _ iv _=>os.length-(intOf iv).toNat)
 case atStart=>exact ⟨0,0,0,qs _,rfl,rfl,rfl,HR.out.1,HR.out.2,qj _ _⟩
 case round=>
  obtain ⟨i,mc,ms,hi,rfl,rfl,rfl,h1,h2,hbl⟩:=hrel;by_cases hlt:i<os.length
  ·rcases HO.out with h0|⟨g,off,rfl,hO⟩
   ·subst h0;cases hlt
   have li:(i:Int)<(os.length:Int):=by omega
   obtain ⟨c0,c1,c2,c3,c4,c5⟩:=(hO.below hbl).cells hlt;rw [lastC_drop cl os hlt] at h1;rw [lastS_drop os hlt] at h2;have HH:Hid (lastC cl (os.drop (i+1)) (if os[i].cl=cl then max mc os[i].ck else mc)=RC∧lastS (os.drop (i+1)) (max ms os[i].st)=RS):=⟨h1,h2⟩;clear h1 h2 HR hO;by_cases hc:os[i].cl=cl
   ·have hc':(os[i].cl==cl)=true:=by simpa using hc
    have HQ:Hid (lastC cl (os.drop (i+1)) (max mc os[i].ck)=RC∧lastS (os.drop (i+1)) (max ms os[i].st)=RS):=by have h:=HH.out;rw [if_pos hc] at h;exact h
    clear HH;go_wp2;go_roundw
    case rel=>exact ⟨i+1,_,_,hlt,rfl,rfl,by go_num,HQ.out.1,HQ.out.2,hbl.alloc hbl.size _⟩
    case measure=>simp [intOf];omega
   ·have hc':(os[i].cl==cl)=false:=by simpa using hc
    have HQ:Hid (lastC cl (os.drop (i+1)) mc=RC∧lastS (os.drop (i+1)) (max ms os[i].st)=RS):=by have h:=HH.out;rw [if_neg hc] at h;exact h
    clear HH;go_wp2;go_roundw
    case rel=>exact ⟨i+1,_,_,hlt,rfl,rfl,by go_num,HQ.out.1,HQ.out.2,hbl.alloc hbl.size _⟩
    case measure=>simp [intOf];omega
  ·obtain rfl:i=os.length:=by omega
   rw [List.drop_length] at h1 h2;clear HR;go_wp2;go_ret2;exact ⟨by rw [← h1,← h2];rfl,hbl⟩
def getO:Option Opn→Opn
 | none=>o0
 | some o=>o
theorem getV_eq (x:Option Opn):getV x=.tuple #[.agg #[I6 (getO x).kd,U3 (getO x).cl,U3 (getO x).ck,U3 (getO x).st,U6 (getO x).rf,I3 (getO x).ch],.bool x.isSome]:=by
 cases x<;>rfl
def rdy (t:Tr) (o:Opn):Bool:=(decide (o.ck≤1)||(t.get (o.cl*1048576+(o.ck-1))).isSome)&&(decide (o.rf=0)||((t.get o.rf).isSome&&(decide ((getO (t.get o.rf)).kd=1)&&decide ((getO (t.get o.rf)).st<o.st))))
structure ReadyS (w W:World) (b:Nat) (p0:Option Addr) (o:Opn):Prop where
 below:Bel w W
 top:W.cell? (Ad b 3)=some (.pointer p0)
 lt:b<w.heap.size
 item:RowIs W w.heap.size 43 6 (opV o)
theorem ReadyS.kept {w W W2:World} (h:ReadyS w W b p0 o) (hb:Bel W W2):ReadyS w W2 b p0 o:=⟨h.below.trans (hb.mono h.below.size),(hb.cell (block_lt_of_cell h.top)).trans h.top,h.lt,h.item.below hb h.item.lt⟩
theorem ReadyS.drew {w W:World} (h:ReadyS w W b p0 o):ReadyS w W.drew b p0 o:=⟨h.below.drew,h.top,h.lt,h.item.drew⟩
theorem ReadyS.put {w W:World} {g:Nat} (h:ReadyS w W b p0 o) (hg:w.heap.size<g) (cs:Array Value):ReadyS w (W.setRow g cs) b p0 o:=
 ⟨kn h.below (by omega) _,(qz (a:=(Ad b 3)) (setRow_other _ _ _ _ (by have:=h.lt;show b≠g;omega))).trans h.top,h.lt,h.item.setRowOther (by omega) _⟩
theorem ReadyS.cells {w W:World} (h:ReadyS w W b p0 o):W.cell? (Ad w.heap.size 0)=some (I6 o.kd)∧W.cell? (Ad w.heap.size 1)=some (U3 o.cl)∧W.cell? (Ad w.heap.size 2)=some (U3 o.ck)∧W.cell? (Ad w.heap.size 3)=some (U3 o.st)∧W.cell? (Ad w.heap.size 4)=some (U6 o.rf)∧W.cell? (Ad w.heap.size 5)=some (I3 o.ch):=
 ⟨h.item.cell (j:=0) (by omega),h.item.cell (j:=1) (by omega),h.item.cell (j:=2) (by omega),h.item.cell (j:=3) (by omega),h.item.cell (j:=4) (by omega),h.item.cell (j:=5) (by omega)⟩
theorem isReady_any (b:Nat) (st cl ss:Int) (top vW vK:Value) (t:Tr) (o:Opn) (w:World) (h:RowIs w b 118 7 (rep7 st cl top vW ss vK)) (hI:IsTr w top t) (ht:t.T) (ho:KeyT o):Cs 96 #[(pt b 2),.agg (oC o)] w fun e w'=>e=.returned (.bool (rdy t o))∧Bel w w':=by
 obtain ⟨p0,rfl⟩:=hI.ptr;have c3:w.cell? (Ad b 3)=some (.pointer p0):=h.cell (j:=3) (by omega);have hg:=fun k W (hW:Bel w W)=>sGet_any k t _ W (hI.below hW) ht;have hS0:ReadyS w (w.alloc (.cells (oC o) 43)) b p0 o:=⟨(qj _ _).alloc (qb _) _,(World.cell?_alloc_lt _ _ (Ad b 3) h.lt).trans c3,h.lt,RowIs.last rfl rfl⟩;unfold rdy;simp only [getV_eq] at hg;generalize hX1:t.get (o.cl*1048576+(o.ck-1))=X1;generalize hX2:t.get o.rf=X2;have hg1:=hg (o.cl*1048576+(o.ck-1));have hg2:=hg o.rf;rw [hX1] at hg1;rw [hX2] at hg2;generalize getO X1=x1 at *;generalize getO X2=x2 at *;generalize X1.isSome=B1 at *;generalize X2.isSome=B2 at *;have HG1:Hid (∀ W,Bel w W→Cs 94 #[.agg #[.pointer p0],U6 (o.cl*1048576+(o.ck-1))] W fun e w'=>e=.returned (.tuple #[.agg (oC x1),.bool B1])∧Bel W w'):=hg1;have HG2:Hid (∀ W,Bel w W→Cs 94 #[.agg #[.pointer p0],U6 o.rf] W fun e w'=>e=.returned (.tuple #[.agg (oC x2),.bool B2])∧Bel W w'):=hg2;have HS0:Hid (ReadyS w (w.alloc (.cells (oC o) 43)) b p0 o):=hS0;have HO:Hid (KeyT o):=ho;generalize hRR:((decide (o.ck≤1)||B1)&&(decide (o.rf=0)||(B2&&(decide (x2.kd=1)&&decide (x2.st<o.st)))))=RR;have HR:Hid (((decide (o.ck≤1)||B1)&&(decide (o.rf=0)||(B2&&(decide (x2.kd=1)&&decide (x2.st<o.st)))))=RR):=hRR;clear h hI ht hg hg1 hg2 hX1 hX2 hS0 c3 ho hRR;go_enter Tryz.func96,Tryz.ntmps96;go_upto_if 11 with fail;go_cut [] (fun wx=>(decide (o.ck≤1)||B1)=true∧ReadyS w wx b p0 o)
 case first=>
  by_cases hk:1<o.ck
  ·have HT:Hid ((0≤o.cl∧o.cl<4294967296)∧(0≤o.ck-1∧o.ck-1<4294967296)):=⟨HO.out.1,by have:=HO.out.2;omega⟩;have e1:IntKind.u32.wrap (o.ck-1)=o.ck-1:=by have:=HO.out.2;rw [IntKind.wrap_u32];omega
   go_wp2;refine wp_region_held_drew (S:=fun w'=>ReadyS w w' b p0 o) (by kernel_rfl) HS0.out.drew (fun hHeld=>?_);clear HS0;generalize World.drew _=wD at hHeld ⊢;refine ks 0 13 ?_;refine ks 1 14 ?_;refine ks 2 15 ?_;refine x9 3 16 (fun _ h=>ReadyS.top h) ?_;refine ks 4 17 ?_;refine x9 5 18 (fun _ h=>ReadyS.cells h) ?_;refine ks 6 19 ?_;refine x9 7 20 (fun _ h=>ReadyS.cells h) ?_;refine ks 8 21 ?_;refine rd2 9 (some 22) 14 (some 5) rfl rfl (fun K hK=>?_) (fun K hK=>?_)
   ·go_simp;refine (pKey_any _ _ HT.out.1 HT.out.2 _).mono ?_;rintro e wz ⟨rfl,hwz⟩;obtain rfl:=hwz.symm;refine hK.out _ _ hHeld fun hHeld=>?_;clear hK K;refine rd2 10 (some 23) 14 (some 5) rfl rfl (fun K hK=>?_) (fun K hK=>?_)
    ·go_simp;refine (HG1.out _ hHeld.below).mono ?_;rintro e w1 ⟨rfl,hbg⟩;refine hK.out _ _ (hHeld.kept hbg) (fun hHeld=>?_);clear hK K hbg;refine ks 11 12 ?_;refine ks 12 24 ?_;refine ks 13 25 ?_;refine rd 14 (some 5) rfl (fun K hK=>?_);go_simp;have RA:RowIs (w1.alloc (.cells oZ 43)) w1.heap.size 43 6 (opV o0):=RowIs.last rfl rfl;have hga:w.heap.size<w1.heap.size:=hHeld.item.lt;refine hK.out _ _ (hHeld.kept (kq _ _)) (fun hHeld=>?_);clear hK K;refine rd 15 none rfl (fun K hK=>?_);rw [if_pos (by rfl)];refine wp_store_row 43 (.tmp 5) (.tmp 24) rfl w1.heap.size (rowOf 6 (opV x1)) rfl rfl _ _ RA (by rw [rowOf_size];exact vd) (by rw [rowOf_size,rowOf_size]) (vh _) ?_;have RB:=RA.setRow (opV x1);refine hK.out _ _ (hHeld.put hga _) (fun hHeld=>?_);clear hK K;refine rdg 16 (some 6) ?_;refine xy ?_;cases B1
     ·have hk2:¬ o.ck≤1:=by omega
      clear RA RB;go_wp2_with fail;go_ret;exact ⟨by rw [← HR.out,decide_eq_false (show ¬ o.ck≤1 by omega)];rfl,hHeld.below⟩
     ·clear RA RB;go_wp2_with fail;go_meet;exact ⟨by simp,hHeld⟩
    ·go_simp;have RA:RowIs (wD.alloc (.cells oZ 43)) wD.heap.size 43 6 (opV o0):=RowIs.last rfl rfl;have hga:w.heap.size<wD.heap.size:=hHeld.item.lt;refine hK.out _ _ (hHeld.kept (kq _ _)) (fun hHeld=>?_);clear hK K;refine rd 10 (some 23) rfl (fun K hK=>?_);go_simp;refine (HG1.out _ hHeld.below).mono ?_;rintro e w1 ⟨rfl,hbg⟩;have RA:=RA.below hbg RA.lt;refine hK.out _ _ (hHeld.kept hbg) (fun hHeld=>?_);clear hK K hbg;refine ks 11 12 ?_;refine ks 12 24 ?_;refine ks 13 25 ?_;refine rd 15 none rfl (fun K hK=>?_);rw [if_pos (by rfl)];refine wp_store_row 43 (.tmp 5) (.tmp 24) rfl wD.heap.size (rowOf 6 (opV x1)) rfl rfl _ _ RA (by rw [rowOf_size];exact vd) (by rw [rowOf_size,rowOf_size]) (vh _) ?_;have RB:=RA.setRow (opV x1);refine hK.out _ _ (hHeld.put hga _) (fun hHeld=>?_);clear hK K;refine rdg 16 (some 6) ?_;refine xy ?_;cases B1
     ·have hk2:¬ o.ck≤1:=by omega
      clear RA RB;go_wp2_with fail;go_ret;exact ⟨by rw [← HR.out,decide_eq_false (show ¬ o.ck≤1 by omega)];rfl,hHeld.below⟩
     ·clear RA RB;go_wp2_with fail;go_meet;exact ⟨by simp,hHeld⟩
   ·go_simp;have RA:RowIs (wD.alloc (.cells oZ 43)) wD.heap.size 43 6 (opV o0):=RowIs.last rfl rfl;have hga:w.heap.size<wD.heap.size:=hHeld.item.lt;refine hK.out _ _ (hHeld.kept (kq _ _)) (fun hHeld=>?_);clear hK K;refine rd 9 (some 22) rfl (fun K hK=>?_);go_simp;refine (pKey_any _ _ HT.out.1 HT.out.2 _).mono ?_;rintro e wz ⟨rfl,hwz⟩;obtain rfl:=hwz.symm;refine hK.out _ _ hHeld fun hHeld=>?_;clear hK K;refine rd 10 (some 23) rfl (fun K hK=>?_);go_simp;refine (HG1.out _ hHeld.below).mono ?_;rintro e w1 ⟨rfl,hbg⟩;have RA:=RA.below hbg RA.lt;refine hK.out _ _ (hHeld.kept hbg) (fun hHeld=>?_);clear hK K hbg;refine ks 11 12 ?_;refine ks 12 24 ?_;refine ks 13 25 ?_;refine rd 15 none rfl (fun K hK=>?_);rw [if_pos (by rfl)];refine wp_store_row 43 (.tmp 5) (.tmp 24) rfl wD.heap.size (rowOf 6 (opV x1)) rfl rfl _ _ RA (by rw [rowOf_size];exact vd) (by rw [rowOf_size,rowOf_size]) (vh _) ?_;have RB:=RA.setRow (opV x1);refine hK.out _ _ (hHeld.put hga _) (fun hHeld=>?_);clear hK K;refine rdg 16 (some 6) ?_;refine xy ?_;cases B1
    ·have hk2:¬ o.ck≤1:=by omega
     clear RA RB;go_wp2_with fail;go_ret;exact ⟨by rw [← HR.out,decide_eq_false (show ¬ o.ck≤1 by omega)];rfl,hHeld.below⟩
    ·clear RA RB;go_wp2_with fail;go_meet;exact ⟨by simp,hHeld⟩
  ·have hk':o.ck≤1:=by omega
   go_wp2;go_meet;exact ⟨by simp [hk'],HS0.out⟩
 case rest=>
  obtain ⟨h1,hS⟩:=hcut;have hR:=HR.out;rw [h1,Bool.true_and] at hR;have HR2:Hid ((decide (o.rf=0)||(B2&&(decide (x2.kd=1)&&decide (x2.st<o.st))))=RR):=hR;have HS:Hid (ReadyS w wc b p0 o):=hS;obtain ⟨a0,a1,a2,a3,a4,a5⟩:=hS.cells;clear h1 hS hR HR HG1 HS0 HO;by_cases hr:o.rf=0
  ·have HE:Hid (true=RR):=by rw [← HR2.out,decide_eq_true hr];rfl
   rw [hr] at a4;clear HR2 hr;go_wp2_with fail;go_ret;exact ⟨by rw [← HE.out];rfl,HS.out.below⟩
  ·have hr':(o.rf==0)=false:=by simpa using hr
   have HE:Hid ((B2&&(decide (x2.kd=1)&&decide (x2.st<o.st)))=RR):=by rw [← HR2.out,decide_eq_false hr];rfl
   clear HR2 hr;go_wp2_with fail;refine wp_region_held_drew (S:=fun w'=>ReadyS w w' b p0 o) (by kernel_rfl) HS.out.drew (fun hHeld=>?_);clear HS a0 a1 a2 a3 a4 a5;generalize World.drew _=wE at hHeld ⊢;refine ks 0 32 ?_;refine ks 1 33 ?_;refine ks 2 34 ?_;refine x9 3 35 (fun _ h=>ReadyS.top h) ?_;refine ks 4 36 ?_;refine x9 5 37 (fun _ h=>ReadyS.cells h) ?_;refine rd2 6 (some 38) 10 (some 7) rfl rfl (fun K hK=>?_) (fun K hK=>?_)
   ·go_simp;refine (HG2.out _ hHeld.below).mono ?_;rintro e w2 ⟨rfl,hbg⟩;refine hK.out _ _ (hHeld.kept hbg) (fun hHeld=>?_);clear hK K hbg;refine ks 7 31 ?_;refine ks 8 39 ?_;refine ks 9 40 ?_;refine rd 10 (some 7) rfl (fun K hK=>?_);go_simp;have RA:RowIs (w2.alloc (.cells oZ 43)) w2.heap.size 43 6 (opV o0):=RowIs.last rfl rfl;have hga:w.heap.size<w2.heap.size:=hHeld.item.lt;refine hK.out _ _ (hHeld.kept (kq _ _)) (fun hHeld=>?_);clear hK K;refine rd 11 none rfl (fun K hK=>?_);rw [if_pos (by rfl)];refine wp_store_row 43 (.tmp 7) (.tmp 39) rfl w2.heap.size (rowOf 6 (opV x2)) rfl rfl _ _ RA (by rw [rowOf_size];exact vd) (by rw [rowOf_size,rowOf_size]) (vh _) ?_;have RB:=RA.setRow (opV x2);refine hK.out _ _ (hHeld.put hga _) (fun hHeld=>?_);clear hK K;refine rdg 12 (some 8) ?_;refine xy ?_;have y0:World.cell? _ (Ad _ 0)=some _:=RB.cell (j:=0) (by omega);have y3:World.cell? _ (Ad _ 3)=some _:=RB.cell (j:=3) (by omega);obtain ⟨a0,a1,a2,a3,a4,a5⟩:=hHeld.cells;simp only [opV] at y0 y3;have HB:=hHeld.below;clear RA RB hHeld;cases B2
    ·go_wp2_with fail;go_ret;exact ⟨by rw [← HE.out];rfl,HB⟩
    ·by_cases h1:x2.kd=1
     ·have h1':(x2.kd==1)=true:=by simpa using h1
      by_cases h2:x2.st<o.st
      ·go_wp2_with fail;go_ret;exact ⟨by rw [← HE.out,decide_eq_true h1,decide_eq_true h2];rfl,HB⟩
      ·go_wp2_with fail;go_ret;exact ⟨by rw [← HE.out,decide_eq_true h1,decide_eq_false (show ¬ x2.st<o.st by omega)];rfl,HB⟩
     ·have h1':(x2.kd==1)=false:=by simpa using h1
      go_wp2_with fail;go_ret;exact ⟨by rw [← HE.out,decide_eq_false h1];rfl,HB⟩
   ·go_simp;have RA:RowIs (wE.alloc (.cells oZ 43)) wE.heap.size 43 6 (opV o0):=RowIs.last rfl rfl;have hga:w.heap.size<wE.heap.size:=hHeld.item.lt;refine hK.out _ _ (hHeld.kept (kq _ _)) (fun hHeld=>?_);clear hK K;refine rd 6 (some 38) rfl (fun K hK=>?_);go_simp;refine (HG2.out _ hHeld.below).mono ?_;rintro e w2 ⟨rfl,hbg⟩;have RA:=RA.below hbg RA.lt;refine hK.out _ _ (hHeld.kept hbg) (fun hHeld=>?_);clear hK K hbg;refine ks 7 31 ?_;refine ks 8 39 ?_;refine ks 9 40 ?_;refine rd 11 none rfl (fun K hK=>?_);rw [if_pos (by rfl)];refine wp_store_row 43 (.tmp 7) (.tmp 39) rfl wE.heap.size (rowOf 6 (opV x2)) rfl rfl _ _ RA (by rw [rowOf_size];exact vd) (by rw [rowOf_size,rowOf_size]) (vh _) ?_;have RB:=RA.setRow (opV x2);refine hK.out _ _ (hHeld.put hga _) (fun hHeld=>?_);clear hK K;refine rdg 12 (some 8) ?_;refine xy ?_;have y0:World.cell? _ (Ad _ 0)=some _:=RB.cell (j:=0) (by omega);have y3:World.cell? _ (Ad _ 3)=some _:=RB.cell (j:=3) (by omega);obtain ⟨a0,a1,a2,a3,a4,a5⟩:=hHeld.cells;simp only [opV] at y0 y3;have HB:=hHeld.below;clear RA RB hHeld;cases B2
    ·go_wp2_with fail;go_ret;exact ⟨by rw [← HE.out];rfl,HB⟩
    ·by_cases h1:x2.kd=1
     ·have h1':(x2.kd==1)=true:=by simpa using h1
      by_cases h2:x2.st<o.st
      ·go_wp2_with fail;go_ret;exact ⟨by rw [← HE.out,decide_eq_true h1,decide_eq_true h2];rfl,HB⟩
      ·go_wp2_with fail;go_ret;exact ⟨by rw [← HE.out,decide_eq_true h1,decide_eq_false (show ¬ x2.st<o.st by omega)];rfl,HB⟩
     ·have h1':(x2.kd==1)=false:=by simpa using h1
      go_wp2_with fail;go_ret;exact ⟨by rw [← HE.out,decide_eq_false h1];rfl,HB⟩
def idxI (p:Opn→Bool) (os:List Opn):Int:=match os.findIdx? p with
 | none=>-1
 | some i=>i
theorem idxI_none {p:Opn→Bool} (h:∀ k (hk:k<os.length),p os[k]=false):idxI p os=-1:=by
 unfold idxI;rw [List.findIdx?_eq_none_iff.2 fun x hx=>by obtain ⟨k,hk,rfl⟩:=qw.1 hx;exact h k hk]
theorem idxI_some {p:Opn→Bool} (hi:i<os.length) (h:∀ k (hk:k<os.length),k<i→p os[k]=false) (hp:p os[i]=true):idxI p os=i:=by
 unfold idxI;rw [zx.2 ⟨hi,hp,fun j hj=>by rw [h j (by omega) hj];simp⟩]
theorem ixf_any (b:Nat) (p:Opn→Bool) (a:Option Addr) (cap:Nat) (os:List Opn) (w:World) (hO:OpsIs w a os) (hn:os.length<4611686018427387904)
  (hc:∀ o∈os,∀ W,Bel w W→Cs 96 #[(pt b 2),.agg (oC o)] W fun e w'=>e=.returned (.bool (p o))∧Bel W w') :
  Cs 170 #[.slice a os.length cap,.func (.func 96) #[(pt b 2)] #[]] w fun e w'=>e=.returned (I6 (idxI p os))∧Bel w w':=by
 have HC:Hid (∀ o∈os,∀ W,Bel w W→Cs 96 #[(pt b 2),.agg (oC o)] W fun e w'=>e=.returned (.bool (p o))∧Bel W w'):=hc;have HO:Hid (OpsIs w a os):=hO;generalize hR:idxI p os=R;have HR:Hid (idxI p os=R):=hR;clear hc hO hR;go_enter Tryz.func170,Tryz.ntmps170;go_wp2_with fail;go_loopw [8] (fun iv wr=>∃ i:Nat,i≤os.length∧iv=I6 i∧Hid (Bel w wr)∧Hid (∀ k (hk:k<os.length),k<i→p os[k]=false)) (fun iv _=>os.length-(intOf iv).toNat)
 case atStart=>exact ⟨0,qs _,rfl,qj _ _,fun k _ h=>absurd h (yl _)⟩
 case round=>
  obtain ⟨i,hi,rfl,B,I⟩:=hrel;by_cases hlt:i<os.length
  ·have li:(i:Int)<(os.length:Int):=by omega
   rcases HO.out with rfl|⟨g,off,rfl,hO⟩
   ·cases hlt
   obtain ⟨c0,c1,c2,c3,c4,c5⟩:=(hO.below B.out).cells hlt;have hCi:=HC.out os[i] (qn hlt) _ B.out;have hI1:p os[i]=true→idxI p os=i:=fun h=>idxI_some hlt I.out h
   have hI2:p os[i]=false→∀ k (hk:k<os.length),k<i+1→p os[k]=false:=fun h k hk hk'=>by
    rcases zr k i with q|q
    ·exact I.out k hk q
    ·obtain rfl:k=i:=by omega
     exact h
   generalize os[i]=o at *;generalize p o=P at *;have HI1:Hid (P=true→idxI p os=i):=hI1;have HI2:Hid (P=false→∀ k (hk:k<os.length),k<i+1→p os[k]=false):=hI2;have HCi:Hid (Cs 96 #[(pt b 2),.agg (oC o)] wr fun e w'=>e=.returned (.bool P)∧Bel wr w'):=hCi;clear hI1 hI2 hCi hO;cases P
   ·go_wp2_with (go_at_call 96;refine HCi.out.mono ?_;rintro e w1 ⟨rfl,hb1⟩);go_roundw
    case rel=>exact ⟨i+1,hlt,by go_num,B.out.trans (hb1.mono B.out.size),HI2.out (by trivial)⟩
    case measure=>simp [intOf];omega
   ·go_wp2_with (go_at_call 96;refine HCi.out.mono ?_;rintro e w1 ⟨rfl,hb1⟩);go_ret;exact ⟨by rw [← HR.out,HI1.out (by trivial)];rfl,B.out.trans (hb1.mono B.out.size)⟩
  ·have li:¬ (i:Int)<(os.length:Int):=by omega
   go_wp2_with fail;go_ret;exact ⟨by rw [← HR.out,idxI_none fun k hk=>I.out k hk (by omega)];rfl,B.out⟩

import Derived.Test.YtgccjefbedpmpaaGreatDoorYRule
import Derived.Test.YtgccjefbedpmpaaGreatDoorYSame
namespace Go.Proofs.YtgccjefbedpmpaaGreatDoor
open Go.RowKit
set_option maxRecDepth 100000
set_option maxHeartbeats 8000000
variable {b g : Nat} {o : Opn} {os : List Opn} {rk : Int} {vl vr : Value} {w' : World}
def opV (o:Opn):Nat→Value
 | 0=>I6 o.kd
 | 1=>U3 o.cl
 | 2=>U3 o.ck
 | 3=>U3 o.st
 | 4=>U6 o.rf
 | _=>I3 o.ch
structure OpT (o:Opn):Prop where
 kd:-9223372036854775808≤o.kd∧o.kd≤9223372036854775807
 cl:0≤o.cl∧o.cl<4294967296
 ck:0≤o.ck∧o.ck<4294967296
 st:0≤o.st∧o.st<4294967296
 rf:0≤o.rf∧o.rf<18446744073709551616
 ch:-2147483648≤o.ch∧o.ch≤2147483647
def OpsAt (w:World) (g off:Nat) (os:List Opn):Prop:=∀ i (h:i<os.length) j,j<6→w.cell? ⟨g,off+i*6+j,none⟩=some (opV os[i] j)
def OpsIs (w:World) (a:Option Addr) (os:List Opn):Prop:=os=[]∨∃ g off,a=some (Ad g off)∧OpsAt w g off os
theorem OpsAt.below {w:World} {off:Nat} (h:OpsAt w g off os) (hb:Bel w w'):OpsAt w' g off os:=fun i hi j hj=>
 (hb.cell (block_lt_of_cell (h i hi j hj))).trans (h i hi j hj)
theorem OpsIs.below {w:World} {a:Option Addr} (h:OpsIs w a os) (hb:Bel w w'):OpsIs w' a os:=h.elim Or.inl fun ⟨g,off,e,k⟩=>Or.inr ⟨g,off,e,k.below hb⟩
theorem OpsAt.cells {w:World} {off:Nat} (h:OpsAt w g off os) {i:Nat} (hi:i<os.length):w.cell? ⟨g,off+i*6,none⟩=some (I6 os[i].kd)∧w.cell? ⟨g,off+i*6+1,none⟩=some (U3 os[i].cl)∧w.cell? ⟨g,off+i*6+2,none⟩=some (U3 os[i].ck)∧w.cell? ⟨g,off+i*6+3,none⟩=some (U3 os[i].st)∧w.cell? ⟨g,off+i*6+4,none⟩=some (U6 os[i].rf)∧w.cell? ⟨g,off+i*6+5,none⟩=some (I3 os[i].ch):=
 ⟨h i hi 0 (by omega),h i hi 1 (by omega),h i hi 2 (by omega),h i hi 3 (by omega),h i hi 4 (by omega),h i hi 5 (by omega)⟩
theorem Qw (kd cl ck st rf ch:Int) (hcl:0≤cl∧cl<4294967296) (hck:0≤ck∧ck<4294967296) (h0:0≤rf) (h1:rf<18446744073709551616) (w:World) (hS:Sents w) :
  Cs 92 #[.agg #[I6 kd,U3 cl,U3 ck,U3 st,U6 rf,I3 ch]] w fun e w'=>∃ x,e=.returned x∧(okOp kd cl ck st rf ch=true→x=.nilIface)∧(okOp kd cl ck st rf ch=false→Ref w' 4 x)∧Bel w w':=by
 have hz:Bel w (w.alloc (.cells #[I6 kd,U3 cl,U3 ck,U3 st,U6 rf,I3 ch] 43)):=(qj _ _).alloc (qb _) _;have hO:=opFault_any kd cl ck st rf ch hcl hck h0 h1 _ (hS.below hz);have HO:Hid (Calls _ _ _ _ _):=hO;clear hO;generalize okOp kd cl ck st rf ch=R at *;cases R
 ·go_enter Tryz.func92,Tryz.ntmps92
  go_wp2_with (first
   | (go_at_call 164;refine HO.out.mono ?_;rintro e w1 ⟨x,rfl,-,hx,hb1⟩;obtain ⟨t,y,rfl⟩:=hx rfl)
   | (go_at_call 110;refine (refuse_err _ _ ⟨_,_,rfl⟩ _).mono ?_;rintro e w2 ⟨⟨x,rfl,hr⟩,hb2⟩))
  go_ret;have hb:=hz.trans (hb1.mono (by simp));exact ⟨_,rfl,fun h=>(by cases h),fun _=>hr,hb.trans (hb2.mono hb.size)⟩
 ·go_enter Tryz.func92,Tryz.ntmps92
  go_wp2_with (first
   | (go_at_call 164;refine HO.out.mono ?_;rintro e w1 ⟨x,rfl,hx,-,hb1⟩;obtain rfl:=hx rfl)
   | (go_at_call 110;refine (refuse_nil _ _).mono ?_;rintro e w2 ⟨rfl,rfl⟩))
  go_ret;exact ⟨_,rfl,fun _=>rfl,fun h=>(by cases h),hz.trans (hb1.mono (by simp))⟩
structure Tr where
 top:Option (Opn×Int×Tr×Tr)
abbrev Tr.nil:Tr:=⟨none⟩
abbrev Tr.node (o:Opn) (k:Int) (l r:Tr):Tr:=⟨some (o,k,l,r)⟩
theorem Tr.ind {M:Tr→Prop} (nil:M .nil) (node:∀ o k l r,M l→M r→M (.node o k l r)):∀ t,M t
 | ⟨none⟩=>nil
 | ⟨some (o,k,l,r)⟩=>node o k l r (Tr.ind nil node l) (Tr.ind nil node r)
theorem Tr.cs {M:Tr→Prop} (nil:M .nil) (node:∀ o k l r,M (.node o k l r)) (t:Tr):M t:=Tr.ind nil (fun o k l r _ _=>node o k l r) t
def Tr.size:Tr→Nat
 | ⟨none⟩=>0
 | ⟨some (_,_,l,r)⟩=>l.size+1+r.size
def Tr.list:Tr→List Opn
 | ⟨none⟩=>[]
 | ⟨some (o,_,l,r)⟩=>l.list++o::r.list
theorem Tr.list_len (t:Tr):t.list.length=t.size:=by
 induction t using Tr.ind with
 | nil=>rfl
 | node o rk l r hl hr=>simp [Tr.list,Tr.size,hl,hr];omega
def nd9 (o:Opn) (rk:Int) (vl vr:Value):Nat→Value
 | 0=>I6 o.kd
 | 1=>U3 o.cl
 | 2=>U3 o.ck
 | 3=>U3 o.st
 | 4=>U6 o.rf
 | 5=>I3 o.ch
 | 6=>U6 rk
 | 7=>vl
 | _=>vr
def IsTr (w:World):Value→Tr→Prop
 | v,⟨none⟩=>v=.pointer none
 | v,⟨some (o,rk,l,r)⟩=>∃ b vl vr,v=(pt b 0)∧RowIs w b 318 9 (nd9 o rk vl vr)∧IsTr w vl l∧IsTr w vr r
theorem IsTr.below {w w':World} (hb:Bel w w'):∀ {t:Tr} {v:Value},IsTr w v t→IsTr w' v t
 | ⟨none⟩,_,h=>h
 | ⟨some (_,_,_,_)⟩,_,⟨b,vl,vr,e,hr,h1,h2⟩=>⟨b,vl,vr,e,hr.below hb hr.lt,IsTr.below hb h1,IsTr.below hb h2⟩
structure NodeIs (w W:World) (b:Nat) (o:Opn) (rk:Int) (vl vr:Value):Prop where
 below:Bel w W
 row:RowIs W b 318 9 (nd9 o rk vl vr)
theorem NodeIs.kept {w W W2:World} (h:NodeIs w W b o rk vl vr) (hb:Bel W W2):NodeIs w W2 b o rk vl vr:=⟨h.below.trans (hb.mono h.below.size),h.row.below hb h.row.lt⟩
theorem NodeIs.drew {w W:World} (h:NodeIs w W b o rk vl vr):NodeIs w W.drew b o rk vl vr:=⟨h.below.drew,h.row.drew⟩
theorem NodeIs.c7 {w W:World} (h:NodeIs w W b o rk vl vr):W.cell? (Ad b 7)=some vl:=h.row.cell (j:=7) (by omega)
theorem NodeIs.c8 {w W:World} (h:NodeIs w W b o rk vl vr):W.cell? (Ad b 8)=some vr:=h.row.cell (j:=8) (by omega)
theorem NodeIs.c6 {w W:World} (h:NodeIs w W b o rk vl vr):W.cell? (Ad b 6)=some (U6 rk):=h.row.cell (j:=6) (by omega)
theorem NodeIs.op {w W:World} (h:NodeIs w W b o rk vl vr):W.cell? (Ad b 0)=some (I6 o.kd)∧W.cell? (Ad b 1)=some (U3 o.cl)∧W.cell? (Ad b 2)=some (U3 o.ck)∧W.cell? (Ad b 3)=some (U3 o.st)∧W.cell? (Ad b 4)=some (U6 o.rf)∧W.cell? (Ad b 5)=some (I3 o.ch):=
 ⟨h.row.cell (j:=0) (by omega),h.row.cell (j:=1) (by omega),h.row.cell (j:=2) (by omega),h.row.cell (j:=3) (by omega),h.row.cell (j:=4) (by omega),h.row.cell (j:=5) (by omega)⟩
theorem count_any (t:Tr):∀ (v:Value) (w:World),IsTr w v t→t.size≤9223372036854775807→Cs 253 #[v] w fun e w'=>e=.returned (I6 t.size)∧Bel w w':=by
 induction t using Tr.ind with
 | nil=>
  rintro v w rfl -;go_enter Tryz.func253,Tryz.ntmps253;go_wp2;go_ret;exact ⟨rfl,qj _ _⟩
 | node o rk l r ihl ihr=>
  rintro v w ⟨b,vl,vr,rfl,hrow,hl,hr⟩ hs;have hs':l.size+1+r.size≤9223372036854775807:=hs;have HL:Hid (∀ W,Bel w W→Cs 253 #[vl] W fun e w'=>e=.returned (I6 l.size)∧Bel W w'):=fun W hW=>ihl vl W (hl.below hW) (by omega);have HR:Hid (∀ W,Bel w W→Cs 253 #[vr] W fun e w'=>e=.returned (I6 r.size)∧Bel W w'):=fun W hW=>ihr vr W (hr.below hW) (by omega);have hN:NodeIs w w b o rk vl vr:=⟨qj _ _,hrow⟩;clear ihl ihr hl hr hrow;have e1:IntKind.i64.wrap ((l.size:Int)+1)=(l.size:Int)+1:=by rw [IntKind.wrap_i64];omega
  have e2:IntKind.i64.wrap ((l.size:Int)+1+(r.size:Int))=(l.size:Int)+1+(r.size:Int):=by rw [IntKind.wrap_i64];omega
  go_enter Tryz.func253,Tryz.ntmps253;go_wp2;refine wp_region_held_drew (S:=fun w'=>NodeIs w w' b o rk vl vr) (by kernel_rfl) hN.drew (fun hHeld=>?_);generalize World.drew _=wD at hHeld ⊢;refine ks 0 5 ?_;refine ks 1 6 ?_;refine ks 2 7 ?_;refine x9 3 8 (fun _ h=>h.c7) ?_;refine ks 6 11 ?_;refine ks 7 12 ?_;refine ks 8 13 ?_;refine x9 9 14 (fun _ h=>h.c8) ?_;refine rd 4 (some 9) rfl (fun K hK=>?_);go_simp;refine (HL.out _ hHeld.below).mono ?_;rintro e w1 ⟨rfl,hb1⟩;refine hK.out _ _ (hHeld.kept hb1) (fun hHeld=>?_);clear hK K hb1;refine ks 5 10 ?_;refine rd 10 (some 15) rfl (fun K hK=>?_);go_simp;refine (HR.out _ hHeld.below).mono ?_;rintro e w2 ⟨rfl,hb2⟩;refine hK.out _ _ (hHeld.kept hb2) (fun hHeld=>?_);clear hK K hb2;refine ks 11 16 ?_;refine rdg 12 (some 2) ?_;refine xy ?_;go_wp2_with fail;go_ret;exact ⟨rfl,hHeld.below⟩
theorem mKey (a b c d e f:Int) (w:World):(Go.method 566 229 (.agg #[I6 a,U3 b,U3 c,U3 d,U6 e,I3 f]) "Key").run Tryz.prog w=.ok (365,.agg #[I6 a,U3 b,U3 c,U3 d,U6 e,I3 f]) w:=by kernel_rfl
def KeyT (o:Opn):Prop:=(0≤o.cl∧o.cl<4294967296)∧(0≤o.ck∧o.ck<4294967296)
theorem eKey_any (o:Opn) (h:KeyT o) (w:World):Cs 365 #[.agg (oC o)] w fun e w'=>e=.returned (U6 o.key)∧Bel w w':=by
 have HK:Hid (∀ W,Cs 93 #[.agg (oC o)] W fun e w'=>e=.returned (U6 (o.cl*1048576+o.ck))∧Bel W w'):=kz o.kd o.cl o.ck o.st o.rf o.ch h.1 h.2;go_enter Tryz.func365,Tryz.ntmps365;go_wp2_with (go_at_call 93;refine (HK.out _).mono ?_;rintro e w1 ⟨rfl,hb1⟩);go_ret;exact ⟨rfl,((qj _ _).alloc (qb _) _).trans (hb1.mono (by simp))⟩
theorem over_any (b:Nat) (o:Opn) (rk:Int) (vl vr p q:Value) (hp:∃ a,p=.pointer a) (hq:∃ a,q=.pointer a) (w:World) (hrow:RowIs w b 318 9 (nd9 o rk vl vr)) :
  Cs 316 #[(pt b 0),p,q] w fun e w'=>(∃ g,e=.returned ((pt g 0))∧RowIs w' g 318 9 (nd9 o rk p q))∧Bel w w':=by
 have hN:NodeIs w w b o rk vl vr:=⟨qj _ _,hrow⟩;obtain ⟨pa,rfl⟩:=hp;obtain ⟨qa,rfl⟩:=hq;clear hrow;go_enter Tryz.func316,Tryz.ntmps316;go_wp2;refine wp_region_held_drew (S:=fun w'=>NodeIs w w' b o rk vl vr) (by kernel_rfl) hN.drew (fun hHeld=>?_);generalize World.drew _=wD at hHeld ⊢;refine ks 0 7 ?_;refine ks 1 8 ?_;refine ks 2 9 ?_;refine x9 3 10 (fun _ h=>NodeIs.op h) ?_;refine ks 4 11 ?_;refine ks 5 12 ?_;refine ks 6 13 ?_;refine x9 7 14 (fun _ h=>NodeIs.c6 h) ?_;refine ks 8 15 ?_;refine ks 9 16 ?_;refine ks 10 17 ?_;refine rd 11 (some 18) rfl (fun K hK=>?_);go_simp;have R:RowIs (wD.alloc (.cells #[I6 o.kd,U3 o.cl,U3 o.ck,U3 o.st,U6 o.rf,I3 o.ch,U6 rk,.pointer pa,.pointer qa] 318)) wD.heap.size 318 9 (nd9 o rk (.pointer pa) (.pointer qa)):=RowIs.last rfl rfl;refine hK.out _ _ (hHeld.kept (kq _ _)) (fun hHeld=>?_);clear hK K;refine rdg 12 (some 6) ?_;refine xy ?_;go_wp2_with fail;go_ret;exact ⟨⟨_,rfl,R⟩,hHeld.below⟩
theorem isAbove_any (b1 b2:Nat) (o1 o2:Opn) (r1 r2:Int) (l1 q1 l2 q2:Value) (h1:KeyT o1) (h2:KeyT o2) (w:World) (n1:RowIs w b1 318 9 (nd9 o1 r1 l1 q1)) (n2:RowIs w b2 318 9 (nd9 o2 r2 l2 q2)) :
  Cs 315 #[(pt b1 0),(pt b2 0)] w fun e w'=>e=.returned (.bool (if r1=r2 then decide (o2.key<o1.key) else decide (r2<r1)))∧Bel w w':=by
 have hN:NodeIs w w b1 o1 r1 l1 q1∧NodeIs w w b2 o2 r2 l2 q2:=⟨⟨qj _ _,n1⟩,⟨qj _ _,n2⟩⟩;have HK1:Hid (∀ W,Cs 365 #[.agg (oC o1)] W fun e w'=>e=.returned (U6 o1.key)∧Bel W w'):=eKey_any o1 h1;have HK2:Hid (∀ W,Cs 365 #[.agg (oC o2)] W fun e w'=>e=.returned (U6 o2.key)∧Bel W w'):=eKey_any o2 h2;have hd:∀ {W},NodeIs w W b1 o1 r1 l1 q1∧NodeIs w W b2 o2 r2 l2 q2→NodeIs w W.drew b1 o1 r1 l1 q1∧NodeIs w W.drew b2 o2 r2 l2 q2:=fun h=>⟨h.1.drew,h.2.drew⟩;have HD:Hid (∀ W,NodeIs w W b1 o1 r1 l1 q1∧NodeIs w W b2 o2 r2 l2 q2→NodeIs w W.drew b1 o1 r1 l1 q1∧NodeIs w W.drew b2 o2 r2 l2 q2):=fun _ h=>hd h;have HN:Hid (NodeIs w w b1 o1 r1 l1 q1∧NodeIs w w b2 o2 r2 l2 q2):=hN;clear hN hd n1 n2;by_cases hr:r1=r2
 ·subst hr;rw [if_pos rfl];go_enter Tryz.func315,Tryz.ntmps315;go_wp2;refine wp_region_held_drew (S:=fun w'=>NodeIs w w' b1 o1 r1 l1 q1∧NodeIs w w' b2 o2 r1 l2 q2) (by kernel_rfl) (HD.out _ HN.out) (fun hHeld=>?_);generalize World.drew _=wD at hHeld ⊢;refine ks 0 5 ?_;refine ks 1 6 ?_;refine ks 2 7 ?_;refine x9 3 8 (fun _ h=>NodeIs.c6 h.1) ?_;refine ks 4 9 ?_;refine ks 5 10 ?_;refine ks 6 11 ?_;refine x9 7 12 (fun _ h=>NodeIs.c6 h.2) ?_;refine ks 8 13 ?_;refine xy ?_;have HH:Hid (NodeIs w wD b1 o1 r1 l1 q1∧NodeIs w wD b2 o2 r1 l2 q2):=hHeld;clear hHeld HN;go_wp2_with fail;refine wp_region_held_drew (S:=fun w'=>NodeIs w w' b1 o1 r1 l1 q1∧NodeIs w w' b2 o2 r1 l2 q2) (by kernel_rfl) (HD.out _ HH.out) (fun hHeld=>?_);clear HH;generalize World.drew _=wE at hHeld ⊢;refine ks 0 23 ?_;refine ks 1 24 ?_;refine ks 2 25 ?_;refine x9 3 26 (fun _ h=>NodeIs.op h.1) ?_;refine ks 4 27 ?_;refine ks 6 29 ?_;refine ks 7 30 ?_;refine ks 8 31 ?_;refine x9 9 32 (fun _ h=>NodeIs.op h.2) ?_;refine ks 10 33 ?_;refine rd 5 (some 28) rfl (fun K hK=>?_);have hm:=mKey o1.kd o1.cl o1.ck o1.st o1.rf o1.ch;go_simp;refine (HK1.out _).mono ?_;rintro e wk ⟨rfl,hbk⟩;refine hK.out _ _ ⟨hHeld.1.kept hbk,hHeld.2.kept hbk⟩ (fun hHeld=>?_);clear hK K hbk hm;refine rd 11 (some 34) rfl (fun K hK=>?_);have hm:=mKey o2.kd o2.cl o2.ck o2.st o2.rf o2.ch;go_simp;refine (HK2.out _).mono ?_;rintro e wk ⟨rfl,hbk⟩;refine hK.out _ _ ⟨hHeld.1.kept hbk,hHeld.2.kept hbk⟩ (fun hHeld=>?_);clear hK K hbk hm;refine ks 12 35 ?_;refine rdg 13 (some 4) ?_;refine xy ?_;go_wp2_with fail;go_ret;exact ⟨rfl,hHeld.1.below⟩
 ·rw [if_neg hr];have hr':(r1==r2)=false:=by simpa using hr
  go_enter Tryz.func315,Tryz.ntmps315;go_wp2;refine wp_region_held_drew (S:=fun w'=>NodeIs w w' b1 o1 r1 l1 q1∧NodeIs w w' b2 o2 r2 l2 q2) (by kernel_rfl) (HD.out _ HN.out) (fun hHeld=>?_);generalize World.drew _=wD at hHeld ⊢;refine ks 0 5 ?_;refine ks 1 6 ?_;refine ks 2 7 ?_;refine x9 3 8 (fun _ h=>NodeIs.c6 h.1) ?_;refine ks 4 9 ?_;refine ks 5 10 ?_;refine ks 6 11 ?_;refine x9 7 12 (fun _ h=>NodeIs.c6 h.2) ?_;refine ks 8 13 ?_;refine xy ?_;have HH:Hid (NodeIs w wD b1 o1 r1 l1 q1∧NodeIs w wD b2 o2 r2 l2 q2):=hHeld;clear hHeld HN;go_wp2_with fail;refine wp_region_held_drew (S:=fun w'=>NodeIs w w' b1 o1 r1 l1 q1∧NodeIs w w' b2 o2 r2 l2 q2) (by kernel_rfl) (HD.out _ HH.out) (fun hHeld=>?_);clear HH;generalize World.drew _=wE at hHeld ⊢;refine ks 0 14 ?_;refine ks 1 15 ?_;refine ks 2 16 ?_;refine x9 3 17 (fun _ h=>NodeIs.c6 h.1) ?_;refine ks 4 18 ?_;refine ks 5 19 ?_;refine ks 6 20 ?_;refine x9 7 21 (fun _ h=>NodeIs.c6 h.2) ?_;refine ks 8 22 ?_;refine rdg 9 (some 4) ?_;refine xy ?_;go_wp2_with fail;go_ret;exact ⟨rfl,hHeld.1.below⟩
def Tr.T:Tr→Prop
 | ⟨none⟩=>True
 | ⟨some (o,_,l,r)⟩=>KeyT o∧l.T∧r.T
def Tr.cut (k:Int):Tr→Tr×Tr
 | ⟨none⟩=>(.nil,.nil)
 | ⟨some (o,rk,l,r)⟩=>if o.key<k then (.node o rk l (r.cut k).1,(r.cut k).2) else ((l.cut k).1,.node o rk (l.cut k).2 r)
theorem IsTr.ptr {w:World} {v:Value} {t:Tr} (h:IsTr w v t):∃ a,v=.pointer a:=by
 cases t using Tr.cs with
 | nil=>exact ⟨none,h⟩
 | node o rk l r=>obtain ⟨b,vl,vr,rfl,_⟩:=h;exact ⟨_,rfl⟩
theorem Tr.cut_T {k:Int}:∀ {t:Tr},t.T→(t.cut k).1.T∧(t.cut k).2.T
 | ⟨none⟩,_=>⟨trivial,trivial⟩
 | ⟨some (o,rk,l,r)⟩,⟨h,h1,h2⟩=>by
  unfold Tr.cut;split
  ·exact ⟨⟨h,h1,(Tr.cut_T h2).1⟩,(Tr.cut_T h2).2⟩
  ·exact ⟨(Tr.cut_T h1).1,⟨h,(Tr.cut_T h1).2,h2⟩⟩
theorem cut_any (k:Int) (t:Tr):∀ (v:Value) (w:World),IsTr w v t→t.T→Cs 277 #[v,U6 k] w fun e w'=>(∃ p q,e=.returned (.tuple #[p,q])∧IsTr w' p (t.cut k).1∧IsTr w' q (t.cut k).2)∧Bel w w':=by
 induction t using Tr.ind with
 | nil=>
  rintro v w rfl -;go_enter Tryz.func277,Tryz.ntmps277;go_wp2;go_ret2;exact ⟨⟨_,_,rfl,rfl,rfl⟩,qj _ _⟩
 | node o rk l r ihl ihr=>
  rintro v w ⟨b,vl,vr,rfl,hrow,hl,hr⟩ ⟨ht,htl,htr⟩;have HK:Hid (∀ W,Cs 365 #[.agg (oC o)] W fun e w'=>e=.returned (U6 o.key)∧Bel W w'):=eKey_any o ht;have HN:Hid (NodeIs w w b o rk vl vr):=⟨qj _ _,hrow⟩;have HL:Hid (∀ W,Bel w W→Cs 277 #[vl,U6 k] W fun e w'=>(∃ p q,e=.returned (.tuple #[p,q])∧IsTr w' p (l.cut k).1∧IsTr w' q (l.cut k).2)∧Bel W w'):=fun W hW=>ihl vl W (hl.below hW) htl;have HR:Hid (∀ W,Bel w W→Cs 277 #[vr,U6 k] W fun e w'=>(∃ p q,e=.returned (.tuple #[p,q])∧IsTr w' p (r.cut k).1∧IsTr w' q (r.cut k).2)∧Bel W w'):=fun W hW=>ihr vr W (hr.below hW) htr;have HLR:Hid (IsTr w vl l∧IsTr w vr r):=⟨hl,hr⟩;have hpl:=hl.ptr;have hpr:=hr.ptr;have HP:Hid ((∃ a,vl=.pointer a)∧∃ a,vr=.pointer a):=⟨hpl,hpr⟩;have hm:=mKey o.kd o.cl o.ck o.st o.rf o.ch;obtain ⟨c0,c1,c2,c3,c4,c5⟩:=HN.out.op;clear ihl ihr hl hr hrow htl htr hpl hpr ht;by_cases hk:o.key<k
  ·have e:Tr.cut k (.node o rk l r)=(.node o rk l (r.cut k).1,(r.cut k).2):=by rw [Tr.cut,if_pos hk]
   rw [e];have HC:Hid True:=trivial;generalize r.cut k=rc at *;clear e HL;go_enter Tryz.func277,Tryz.ntmps277
   go_wp2_with (first
    | (go_at_call 365;refine (HK.out _).mono ?_;rintro e w1 ⟨rfl,hb1⟩;have N1:=HN.out.kept hb1;have d8:=N1.c8)
    | (go_at_call 277;refine (HR.out _ N1.below).mono ?_;rintro e w2 ⟨⟨p,q,rfl,hp,hq⟩,hb2⟩;have N2:=N1.kept hb2;have d7:=N2.c7;have HPQ:Hid (IsTr w2 p rc.1∧IsTr w2 q rc.2):=⟨hp,hq⟩;clear hp hq)
    | (go_at_call 316;refine (over_any b o rk vl vr vl p HP.out.1 HPQ.out.1.ptr _ N2.row).mono ?_;rintro e w3 ⟨⟨g,rfl,hg⟩,hb3⟩))
   go_ret2;exact ⟨⟨_,_,rfl,⟨g,vl,p,rfl,hg,(HLR.out.1.below (N2.below.trans (hb3.mono N2.below.size))),HPQ.out.1.below hb3⟩,HPQ.out.2.below hb3⟩,N2.below.trans (hb3.mono N2.below.size)⟩
  ·have e:Tr.cut k (.node o rk l r)=((l.cut k).1,.node o rk (l.cut k).2 r):=by rw [Tr.cut,if_neg hk]
   rw [e];generalize l.cut k=lc at *;clear e HR;go_enter Tryz.func277,Tryz.ntmps277
   go_wp2_with (first
    | (go_at_call 365;refine (HK.out _).mono ?_;rintro e w1 ⟨rfl,hb1⟩;have N1:=HN.out.kept hb1;have d7:=N1.c7)
    | (go_at_call 277;refine (HL.out _ N1.below).mono ?_;rintro e w2 ⟨⟨p,q,rfl,hp,hq⟩,hb2⟩;have N2:=N1.kept hb2;have d8:=N2.c8;have HPQ:Hid (IsTr w2 p lc.1∧IsTr w2 q lc.2):=⟨hp,hq⟩;clear hp hq)
    | (go_at_call 316;refine (over_any b o rk vl vr q vr HPQ.out.2.ptr HP.out.2 _ N2.row).mono ?_;rintro e w3 ⟨⟨g,rfl,hg⟩,hb3⟩))
   go_ret2;exact ⟨⟨_,_,rfl,HPQ.out.1.below hb3,⟨g,q,vr,rfl,hg,HPQ.out.2.below hb3,HLR.out.2.below (N2.below.trans (hb3.mono N2.below.size))⟩⟩,N2.below.trans (hb3.mono N2.below.size)⟩
def Tr.isBelow (o:Opn) (rk:Int):Tr→Bool
 | ⟨none⟩=>true
 | ⟨some (o',rk',_,_)⟩=>if rk=rk' then decide (o'.key<o.key) else decide (rk'<rk)
def Tr.with (o:Opn) (rk:Int):Tr→Tr
 | ⟨none⟩=>.node o rk .nil .nil
 | ⟨some (o',rk',l,r)⟩=>
  if (Tr.node o' rk' l r).isBelow o rk then .node o rk ((Tr.node o' rk' l r).cut o.key).1 ((Tr.node o' rk' l r).cut o.key).2
  else if o.key<o'.key then .node o' rk' (l.with o rk) r
  else if o'.key<o.key then .node o' rk' l (r.with o rk)
  else .node o rk l r
theorem with_any (o:Opn) (rk:Int) (ho:KeyT o) (fb:Nat) (t:Tr):∀ (v:Value) (w:World),IsTr w v t→t.T→RowIs w fb 318 9 (nd9 o rk (.pointer none) (.pointer none))→Cs 273 #[v,(pt fb 0)] w fun e w'=>(∃ p,e=.returned p∧IsTr w' p (t.with o rk))∧Bel w w':=by
 have HK:Hid (∀ W,Cs 365 #[.agg (oC o)] W fun e w'=>e=.returned (U6 o.key)∧Bel W w'):=eKey_any o ho;have hm:=mKey o.kd o.cl o.ck o.st o.rf o.ch
 induction t using Tr.ind with
 | nil=>
  rintro v w rfl-hF;have HFN:Hid (NodeIs w w fb o rk (.pointer none) (.pointer none)):=⟨qj _ _,hF⟩;obtain ⟨f0,f1,f2,f3,f4,f5⟩:=HFN.out.op;have HC:Hid (∀ W,Cs 277 #[.pointer none,U6 o.key] W fun e w'=>(∃ p q,e=.returned (.tuple #[p,q])∧IsTr w' p (Tr.cut o.key .nil).1∧IsTr w' q (Tr.cut o.key .nil).2)∧Bel W w'):=fun W=>cut_any o.key .nil _ W rfl trivial;clear hF;go_enter Tryz.func273,Tryz.ntmps273
  go_wp2_with (first
   | (go_at_call 365;refine (HK.out _).mono ?_;rintro e w1 ⟨rfl,hb1⟩;have N1:=HFN.out.kept hb1)
   | (go_at_call 277;refine (HC.out _).mono ?_;rintro e w2 ⟨⟨p,q,rfl,hp,hq⟩,hb2⟩;have N2:=N1.kept hb2;clear N1;have HPQ:Hid (IsTr w2 p .nil∧IsTr w2 q .nil):=⟨hp,hq⟩;clear hp hq)
   | (go_at_call 316;refine (over_any fb o rk _ _ p q HPQ.out.1.ptr HPQ.out.2.ptr _ N2.row).mono ?_;rintro e w3 ⟨⟨g,rfl,hg⟩,hb3⟩))
  go_ret;exact ⟨⟨_,rfl,g,p,q,rfl,hg,HPQ.out.1.below hb3,HPQ.out.2.below hb3⟩,N2.below.trans (hb3.mono N2.below.size)⟩
 | node o' rk' l r ihl ihr=>
  rintro v w ⟨b,vl,vr,rfl,hrow,hl,hr⟩ ⟨ht,htl,htr⟩ hF;have HFN:Hid (NodeIs w w fb o rk (.pointer none) (.pointer none)):=⟨qj _ _,hF⟩;have HF:Hid (RowIs w fb 318 9 (nd9 o rk (.pointer none) (.pointer none))):=hF;have HN:Hid (NodeIs w w b o' rk' vl vr):=⟨qj _ _,hrow⟩;have HK':Hid (∀ W,Cs 365 #[.agg (oC o')] W fun e w'=>e=.returned (U6 o'.key)∧Bel W w'):=eKey_any o' ht;have hm':=mKey o'.kd o'.cl o'.ck o'.st o'.rf o'.ch;have HA:Hid (∀ W,Bel w W→Cs 315 #[(pt fb 0),(pt b 0)] W fun e w'=>e=.returned (.bool ((Tr.node o' rk' l r).isBelow o rk))∧Bel W w'):=fun W hW=>isAbove_any fb b o o' rk rk' _ _ vl vr ho ht W (hF.below hW hF.lt) (hrow.below hW hrow.lt);have HLR:Hid (IsTr w vl l∧IsTr w vr r):=⟨hl,hr⟩;have HP:Hid ((∃ a,vl=.pointer a)∧∃ a,vr=.pointer a):=⟨hl.ptr,hr.ptr⟩;have HC:Hid (∀ W,Bel w W→Cs 277 #[(pt b 0),U6 o.key] W fun e w'=>(∃ p q,e=.returned (.tuple #[p,q])∧IsTr w' p ((Tr.node o' rk' l r).cut o.key).1∧IsTr w' q ((Tr.node o' rk' l r).cut o.key).2)∧Bel W w'):=fun W hW=>cut_any o.key _ _ W ⟨b,vl,vr,rfl,hrow.below hW hrow.lt,hl.below hW,hr.below hW⟩ ⟨ht,htl,htr⟩;have HL:Hid (∀ W,Bel w W→Cs 273 #[vl,(pt fb 0)] W fun e w'=>(∃ p,e=.returned p∧IsTr w' p (l.with o rk))∧Bel W w'):=fun W hW=>ihl vl W (hl.below hW) htl (hF.below hW hF.lt);have HR:Hid (∀ W,Bel w W→Cs 273 #[vr,(pt fb 0)] W fun e w'=>(∃ p,e=.returned p∧IsTr w' p (r.with o rk))∧Bel W w'):=fun W hW=>ihr vr W (hr.below hW) htr (hF.below hW hF.lt);clear ihl ihr hl hr hrow htl htr hF ht ho;have hW:Tr.with o rk (.node o' rk' l r)=if (Tr.node o' rk' l r).isBelow o rk then .node o rk ((Tr.node o' rk' l r).cut o.key).1 ((Tr.node o' rk' l r).cut o.key).2 else if o.key<o'.key then .node o' rk' (l.with o rk) r else if o'.key<o.key then .node o' rk' l (r.with o rk) else .node o rk l r:=rfl;rw [hW];clear hW;generalize (Tr.node o' rk' l r).isBelow o rk=B at *;generalize (Tr.node o' rk' l r).cut o.key=CC at *;cases B
  ·rw [if_neg (by simp)];clear HC;rcases Int.lt_trichotomy o.key o'.key with hk|hk|hk
   ·rw [if_pos hk];clear HR;go_enter Tryz.func273,Tryz.ntmps273
    go_wp2_with (first
     | (go_at_call 315;refine (HA.out _ (qj _ _)).mono ?_;rintro e w1 ⟨rfl,hb1⟩;have N1:=HN.out.kept hb1;obtain ⟨f0,f1,f2,f3,f4,f5⟩:=NodeIs.op (HFN.out.kept hb1))
     | (go_at_call 365;have hq:=N2;clear hq;refine (HK'.out _).mono ?_;rintro e w3 ⟨rfl,hb3⟩;have N3:=N2.kept hb3;clear N2;obtain ⟨g0,g1,g2,g3,g4,g5⟩:=N3.op)
     | (go_at_call 365;have hq:=N3;clear hq;refine (HK'.out _).mono ?_;rintro e w4 ⟨rfl,hb4⟩;have N4:=N3.kept hb4;clear N3)
     | (go_at_call 365;have hq:=N1;clear hq;refine (HK.out _).mono ?_;rintro e w2 ⟨rfl,hb2⟩;have N2:=N1.kept hb2;clear N1;obtain ⟨e0,e1,e2,e3,e4,e5⟩:=N2.op))
    have HNN:Hid (NodeIs w _ b o' rk' vl vr):=N3;refine wp_region_held_drew (S:=fun w'=>NodeIs w w' b o' rk' vl vr) (by kernel_rfl) HNN.out.drew (fun hHeld=>?_);generalize World.drew _=wD at hHeld ⊢;refine ks 0 40 ?_;refine ks 1 41 ?_;refine ks 2 42 ?_;refine ks 3 43 ?_;refine x9 4 44 (fun _ h=>NodeIs.c7 h) ?_;refine ks 5 45 ?_;refine ks 7 47 ?_;refine ks 8 48 ?_;refine ks 9 49 ?_;refine x9 10 50 (fun _ h=>NodeIs.c8 h) ?_;refine rd 6 (some 46) rfl (fun K hK=>?_);go_simp;refine (HL.out _ hHeld.below).mono ?_;rintro e w5 ⟨⟨p,rfl,hp⟩,hb5⟩;have HQ:Hid (IsTr w5 p _):=hp;clear hp;refine hK.out _ _ (hHeld.kept hb5) (fun hHeld=>?_);clear hK K hb5;refine rd 11 (some 51) rfl (fun K hK=>?_);go_simp;refine (over_any b o' rk' vl vr p vr HQ.out.ptr HP.out.2 _ hHeld.row).mono ?_;rintro e w6 ⟨⟨g,rfl,hg⟩,hb6⟩;have HG:Hid (Below _ _ w6∧RowIs w6 g _ 9 _):=⟨hb6,hg⟩;refine hK.out _ _ (hHeld.kept hb6) (fun hHeld=>?_);clear hK K hb6 hg;refine rdg 12 (some 4) ?_;refine xy ?_;go_wp2_with fail;go_ret;exact ⟨⟨_,rfl,g,p,vr,rfl,HG.out.2,HQ.out.below HG.out.1,HLR.out.2.below hHeld.below⟩,hHeld.below⟩
   ·have hk1:¬ o.key<o'.key:=by omega
    have hk2:¬ o'.key<o.key:=by omega
    rw [if_neg hk1,if_neg hk2];clear HL HR;go_enter Tryz.func273,Tryz.ntmps273
    go_wp2_with (first
     | (go_at_call 315;refine (HA.out _ (qj _ _)).mono ?_;rintro e w1 ⟨rfl,hb1⟩;have N1:=HN.out.kept hb1;obtain ⟨f0,f1,f2,f3,f4,f5⟩:=NodeIs.op (HFN.out.kept hb1))
     | (go_at_call 365;have hq:=N2;clear hq;refine (HK'.out _).mono ?_;rintro e w3 ⟨rfl,hb3⟩;have N3:=N2.kept hb3;clear N2;obtain ⟨g0,g1,g2,g3,g4,g5⟩:=N3.op)
     | (go_at_call 365;have hq:=N3;clear hq;refine (HK'.out _).mono ?_;rintro e w4 ⟨rfl,hb4⟩;have N4:=N3.kept hb4;clear N3)
     | (go_at_call 365;have hq:=N1;clear hq;refine (HK.out _).mono ?_;rintro e w2 ⟨rfl,hb2⟩;have N2:=N1.kept hb2;clear N1;obtain ⟨e0,e1,e2,e3,e4,e5⟩:=N2.op))
    have HNN:Hid (NodeIs w _ b o' rk' vl vr):=N4;refine wp_region_held_drew (S:=fun w'=>NodeIs w w' b o' rk' vl vr) (by kernel_rfl) HNN.out.drew (fun hHeld=>?_);generalize World.drew _=wD at hHeld ⊢;refine ks 0 73 ?_;refine ks 1 74 ?_;refine ks 2 75 ?_;refine ks 3 76 ?_;refine x9 4 77 (fun _ h=>NodeIs.c7 h) ?_;refine ks 5 78 ?_;refine ks 6 79 ?_;refine ks 7 80 ?_;refine x9 8 81 (fun _ h=>NodeIs.c8 h) ?_;refine rd 9 (some 82) rfl (fun K hK=>?_);go_simp;refine (over_any fb o rk (.pointer none) (.pointer none) vl vr HP.out.1 HP.out.2 _ (HF.out.below hHeld.below HF.out.lt)).mono ?_;rintro e w6 ⟨⟨g,rfl,hg⟩,hb6⟩;have HG:Hid (Below _ _ w6∧RowIs w6 g _ 9 _):=⟨hb6,hg⟩;refine hK.out _ _ (hHeld.kept hb6) (fun hHeld=>?_);clear hK K hb6 hg;refine rdg 10 (some 4) ?_;refine xy ?_;go_wp2_with fail;go_ret;exact ⟨⟨_,rfl,g,vl,vr,rfl,HG.out.2,HLR.out.1.below hHeld.below,HLR.out.2.below hHeld.below⟩,hHeld.below⟩
   ·have hk1:¬ o.key<o'.key:=by omega
    rw [if_neg hk1,if_pos hk];clear HL;go_enter Tryz.func273,Tryz.ntmps273
    go_wp2_with (first
     | (go_at_call 315;refine (HA.out _ (qj _ _)).mono ?_;rintro e w1 ⟨rfl,hb1⟩;have N1:=HN.out.kept hb1;obtain ⟨f0,f1,f2,f3,f4,f5⟩:=NodeIs.op (HFN.out.kept hb1))
     | (go_at_call 365;have hq:=N2;clear hq;refine (HK'.out _).mono ?_;rintro e w3 ⟨rfl,hb3⟩;have N3:=N2.kept hb3;clear N2;obtain ⟨g0,g1,g2,g3,g4,g5⟩:=N3.op)
     | (go_at_call 365;have hq:=N3;clear hq;refine (HK'.out _).mono ?_;rintro e w4 ⟨rfl,hb4⟩;have N4:=N3.kept hb4;clear N3)
     | (go_at_call 365;have hq:=N1;clear hq;refine (HK.out _).mono ?_;rintro e w2 ⟨rfl,hb2⟩;have N2:=N1.kept hb2;clear N1;obtain ⟨e0,e1,e2,e3,e4,e5⟩:=N2.op))
    have HNN:Hid (NodeIs w _ b o' rk' vl vr):=N4;refine wp_region_held_drew (S:=fun w'=>NodeIs w w' b o' rk' vl vr) (by kernel_rfl) HNN.out.drew (fun hHeld=>?_);generalize World.drew _=wD at hHeld ⊢;refine ks 0 61 ?_;refine ks 1 62 ?_;refine ks 2 63 ?_;refine ks 3 64 ?_;refine x9 4 65 (fun _ h=>NodeIs.c7 h) ?_;refine ks 5 66 ?_;refine ks 6 67 ?_;refine ks 7 68 ?_;refine x9 8 69 (fun _ h=>NodeIs.c8 h) ?_;refine ks 9 70 ?_;refine rd 10 (some 71) rfl (fun K hK=>?_);go_simp;refine (HR.out _ hHeld.below).mono ?_;rintro e w5 ⟨⟨p,rfl,hp⟩,hb5⟩;have HQ:Hid (IsTr w5 p _):=hp;clear hp;refine hK.out _ _ (hHeld.kept hb5) (fun hHeld=>?_);clear hK K hb5;refine rd 11 (some 72) rfl (fun K hK=>?_);go_simp;refine (over_any b o' rk' vl vr vl p HP.out.1 HQ.out.ptr _ hHeld.row).mono ?_;rintro e w6 ⟨⟨g,rfl,hg⟩,hb6⟩;have HG:Hid (Below _ _ w6∧RowIs w6 g _ 9 _):=⟨hb6,hg⟩;refine hK.out _ _ (hHeld.kept hb6) (fun hHeld=>?_);clear hK K hb6 hg;refine rdg 12 (some 4) ?_;refine xy ?_;go_wp2_with fail;go_ret;exact ⟨⟨_,rfl,g,vl,p,rfl,HG.out.2,HLR.out.1.below hHeld.below,HQ.out.below HG.out.1⟩,hHeld.below⟩
  ·rw [if_pos rfl];clear HL HR;go_enter Tryz.func273,Tryz.ntmps273
   go_wp2_with (first
    | (go_at_call 315;refine (HA.out _ (qj _ _)).mono ?_;rintro e w1 ⟨rfl,hb1⟩;have F1:=HFN.out.kept hb1;obtain ⟨f0,f1,f2,f3,f4,f5⟩:=F1.op)
    | (go_at_call 365;refine (HK.out _).mono ?_;rintro e w2 ⟨rfl,hb2⟩;have F2:=F1.kept hb2;clear F1)
    | (go_at_call 277;refine (HC.out _ F2.below).mono ?_;rintro e w3 ⟨⟨p,q,rfl,hp,hq⟩,hb3⟩;have F3:=F2.kept hb3;clear F2;have HPQ:Hid (IsTr w3 p CC.1∧IsTr w3 q CC.2):=⟨hp,hq⟩;clear hp hq)
    | (go_at_call 316;refine (over_any fb o rk _ _ p q HPQ.out.1.ptr HPQ.out.2.ptr _ F3.row).mono ?_;rintro e w4 ⟨⟨g,rfl,hg⟩,hb4⟩))
   go_ret;exact ⟨⟨_,rfl,g,p,q,rfl,hg,HPQ.out.1.below hb4,HPQ.out.2.below hb4⟩,F3.below.trans (hb4.mono F3.below.size)⟩

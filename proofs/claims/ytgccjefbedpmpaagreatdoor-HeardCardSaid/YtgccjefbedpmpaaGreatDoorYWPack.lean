import Derived.Test.YtgccjefbedpmpaaGreatDoorYOpsF
import Derived.ChangeKeysEq
import Derived.OwnWalk
import Derived.Deep.LoopGhost
import Derived.Laws.CopyRow
namespace Go.Proofs.YtgccjefbedpmpaaGreatDoor
open Go.RowKit
set_option maxRecDepth 100000
set_option maxHeartbeats 8000000
variable {B n : Nat} {W2 : World} {l : List Int} {o : Opn} {pa : Option Addr} {v : Value}
structure Env (w:World):Prop where
 sents:Sents w
 tens:Tens w
 handle:Handle w
 glt:11 < w.heap.size
 table:∀ j,j < 64→w.cell? (Ad 11 j)=some (U3 (KK j))
theorem Env.below {w w':World} (h:Env w) (hb:Bel w w'):Env w':=
 ⟨h.sents.below hb,h.tens.below hb,(hb.cell (block_lt_of_cell h.handle)).trans h.handle,ql h.glt hb.size,fun j hj=>(hb.cell h.glt).trans (h.table j hj)⟩
theorem ok_kinds (h:o.ok=true):o.kd=1∨o.kd=2:=by
 unfold Opn.ok okOp at h;simp only [qx] at h;have:=h.2;split at this
 ·exact Or.inl (by assumption)
 ·simp only [qx,decide_eq_true_eq] at this;exact Or.inr this.1.1
theorem OwnB.row {w:World} (h:OwnB w B v l):w.ownsRow B 5 1 v l.length (u8s l):=h
theorem OwnB.view {w:World} (h:OwnB w B v l) (hl:l≠[]):∃ g cap,v=.slice (some (Ad g 0)) l.length cap∧l.length≤cap∧g < w.heap.size∧∀ i (h:i < l.length),w.cell? ⟨g,0+i,none⟩=some (U8 l[i]):=by
 have hh:=h.row;rcases h.2 with ⟨rfl,h0⟩ | ⟨g,cap,cur,rfl,h3,h4,h5,h6,h7,h8⟩
 ·exact absurd (jm h0) hl
 ·refine ⟨g,cap,rfl,h5,(h.lt g rfl).2,fun i hi=>?_⟩;have:=hh.cellAt i (by omega);rw [q9,this];simp [u8s,hi]
theorem ko {P:Program} {fn:Func} {p q:Tmp} {ty:TypeId} (h:fn.results=#[.cell p ty,.tmp q]) (tmps:Array Value) (w:World) (g:Nat) (t:TypeId) (cs:Array Value) (fr:Nat×Nat) (d:TypeDesc) (x:Value)
  (hp:tmps.getD p undef=(pt g 0)) (hq:tmps.getD q undef=x) (hg:w.heap[g]?=some (.cells cs t fr))
  (hu:P.underlying ty=some d) (hd:(match d with | .struct _ | .array _ _=>true | _=>false)=true) (hi:(P.info? ty).map (·.size)=some cs.size) :
  (results fn tmps).run P w=.ok (.tuple #[.agg cs,x]) w:=by
 have hp':tmps[p]?.getD undef=(pt g 0):=by simpa using hp
 have hq':tmps[q]?.getD undef=x:=by simpa using hq
 simp [results,h,hp',hq',asAddr,run_loadVar_row w g t ty cs fr d hg hu hd hi]
def opCs:List Opn→List Value
 | []=>[]
 | o::os=>[I6 o.kd,U3 o.cl,U3 o.ck,U3 o.st,U6 o.rf,I3 o.ch]++opCs os
theorem opCs_app (a b:List Opn):opCs (a++b)=opCs a++opCs b:=by
 induction a with
 | nil=>rfl
 | cons o a ih=>simp only [jn,opCs,ih,qr]
def OwnO (w:World) (B:Nat) (v:Value) (os:List Opn):Prop:=w.ownsRow B 43 6 v os.length (opCs os)
theorem opCs_get:∀ (os:List Opn) {i j:Nat} (hi:i < os.length),j < 6→(opCs os)[i*6+j]?=some (opV os[i] j):=by
 intro os
 induction os with
 | nil=>intro i j hi;cases hi
 | cons o os ih=>
  intro i j hi hj;unfold opCs
  cases i with
  | zero=>
   rw [yv (by simp;omega)]
   match j,hj with
   | 0,_=>rfl
   | 1,_=>rfl
   | 2,_=>rfl
   | 3,_=>rfl
   | 4,_=>rfl
   | 5,_=>rfl
  | succ i=>
   rw [j9 (by simp;omega),show (i+1)*6+j-[I6 o.kd,U3 o.cl,U3 o.ck,U3 o.st,U6 o.rf,I3 o.ch].length=i*6+j by simp;omega];exact ih (by simpa using hi) hj
theorem OwnO.is {w:World} {a:Option Addr} {c:Nat} {os:List Opn} (h:OwnO w B (.slice a n c) os):OpsIs w a os:=by
 rcases h.2 with ⟨e,h0⟩ | ⟨g,cap,cur,e,h3,h4,h5,h6,h7,h8⟩
 ·exact Or.inl (jm h0)
 ·cases e;refine Or.inr ⟨g,0,rfl,fun i hi j hj=>?_⟩;have hc:=za h (i*6+j) (by omega);rw [q9,hc];exact opCs_get os hi hj
def Tr.get (k:Int):Tr→Option Opn
 | ⟨none⟩=>none
 | ⟨some (o,_,l,r)⟩=>if o.key=k then some o else if k < o.key then l.get k else r.get k
@[reducible] def opA (o:Opn):Value:=.agg (oC o)
@[reducible] def zeroOp:Value:=.agg oZ
def getV:Option Opn→Value
 | none=>.tuple #[zeroOp,.bool false]
 | some o=>.tuple #[opA o,.bool true]
@[reducible] def o0:Opn:=⟨0,0,0,0,0,0⟩
structure GetS (w W:World):Prop where
 below:Bel w W
 res:RowIs W (w.heap.size+1) 229 6 (opV o0)
theorem GetS.kept {w W:World} (h:GetS w W) (hb:Bel W W2):GetS w W2:=⟨h.below.trans (hb.mono h.below.size),h.res.below hb h.res.lt⟩
theorem infoEnt:(Tryz.prog.info? 229).map (·.size)=some 6:=by kernel_rfl
theorem infoEnt':(Tryz.prog.info? 229).map (·.size)=some (rowOf 6 (opV o0)).size:=by rw [rowOf_size];exact infoEnt
theorem vh (o:Opn):(rowOf 6 (opV o)).all (·.oneCell')=true:=by
 have e:rowOf 6 (opV o)=(oC o):=rfl;rw [e];simp [Value.oneCell']
theorem infoEnt2:(Tryz.prog.info? 229).map (·.size)=some (rowOf 6 (opV o)).size:=by rw [rowOf_size];exact infoEnt
theorem get_any (k:Int) (t:Tr) (v:Value) (w:World) (hv:IsTr w v t) (ht:t.T):Cs 165 #[.agg #[v],U6 k] w fun e w'=>e=.returned (getV (t.get k))∧Bel w w':=by
 have hptr:=hv.ptr;obtain ⟨pa,rfl⟩:=hptr;have HV:Hid (IsTr w (.pointer pa) t∧t.T):=⟨hv,ht⟩;generalize hRR:getV (t.get k)=RR;have HR:Hid (getV (t.get k)=RR):=hRR;clear hv ht hRR;go_enter Tryz.func165,Tryz.ntmps165;go_wp2_with fail
 have hS0:GetS w ((w.alloc (.cells #[.pointer pa] 101)).alloc (.cells oZ 229)):=by
  have h0:Bel w (w.alloc (.cells #[.pointer pa] 101)):=(qj _ _).alloc (qb _) _;have hr:=RowIs.last (w:=w.alloc (.cells #[.pointer pa] 101)) (t:=229) (f:=opV o0) (cs:=oZ) (n:=6) rfl rfl;have hz:(w.alloc (.cells #[.pointer pa] 101)).heap.size=w.heap.size+1:=by simp
  rw [hz] at hr;exact ⟨h0.alloc h0.size _,hr⟩
 go_loopg [6] t.size (fun g pv wr=>∃ t',IsTr wr pv t'∧t'.T∧t'.get k=t.get k∧g=t'.size∧GetS w wr)
 case atStart=>exact ⟨t,HV.out.1.below (by simpa using hS0.below),HV.out.2,rfl,rfl,hS0⟩
 case round=>
  obtain ⟨t',hI,hT,hget,rfl,hG⟩:=hrel;clear HV hS0
  cases t' using Tr.cs with
  | nil=>
   obtain rfl:_=Value.pointer none:=hI;have HE:Hid (Value.tuple #[.agg (rowOf 6 (opV o0)),.bool false]=RR):=by rw [← HR.out,← hget];rfl
   have HG:Hid (GetS w wr):=hG;clear hG hget hT HR;go_upto_region 8 with fail
   refine wp_region_lit ?_;refine wpList_load_row rfl 229 (.tmp 7) rfl wr.heap.size rfl 229 (rowOf 6 (opV o0)) (0,0) _ (RowIs.last (f:=opV o0) rfl rfl) Tryz.underlying229 rfl infoEnt' ?_;refine wpList_store_row rfl 229 (.tmp 4) (.tmp 40) rfl (w.heap.size+1) (rowOf 6 (opV o0)) rfl rfl _ _ (HG.out.res.alloc _) (by rw [rowOf_size];exact infoEnt) (by rw [rowOf_size]) (vh o0) ?_;go_wp2;exact bodyPost_ret (ko Tryz.results165 _ _ (w.heap.size+1) 229 _ (0,0) _ _ rfl rfl ((HG.out.res.alloc _).setRow (opV o0)) Tryz.underlying229 rfl infoEnt') rfl ⟨congrArg Ending.returned HE.out,kn (HG.out.below.alloc HG.out.below.size _) (zc _) _⟩
  | node o rk l r=>
   obtain ⟨b,vl,vr,rfl,hrow,hl,hr⟩:=hI;obtain ⟨ht,htl,htr⟩:=hT;have HK:Hid (∀ W,Cs 365 #[.agg (oC o)] W fun e w'=>e=.returned (U6 o.key)∧Bel W w'):=eKey_any o ht;have hm:=mKey o.kd o.cl o.ck o.st o.rf o.ch;have N0:NodeIs wr wr b o rk vl vr:=⟨qj _ _,hrow⟩;have HG:Hid (GetS w wr):=hG;have HS:Hid (IsTr wr vl l∧IsTr wr vr r∧l.T∧r.T):=⟨hl,hr,htl,htr⟩;obtain ⟨c0,c1,c2,c3,c4,c5⟩:=N0.op;obtain ⟨la,hla⟩:=hl.ptr;obtain ⟨ra,hra⟩:=hr.ptr;subst hla hra;clear hG hrow hl hr htl htr ht;by_cases hk:o.key=k
   ·have HE:Hid (Value.tuple #[.agg (rowOf 6 (opV o)),.bool true]=RR):=by rw [← HR.out,← hget,Tr.get,if_pos hk];rfl
    have hk':(o.key != k)=false:=by simpa using hk
    clear hget HR HS
    go_wp2_with (first
     | (go_at_call 365;refine (HK.out _).mono ?_;rintro e w1 ⟨rfl,hb1⟩;have N1:=N0.kept hb1;clear N0;have HG1:Hid (GetS w w1):=HG.out.kept hb1;obtain ⟨d0,d1,d2,d3,d4,d5⟩:=N1.op)
     | (refine wpList_store_row rfl 229 (.tmp 4) (.tmp 44) rfl (w.heap.size+1) (rowOf 6 (opV o)) rfl rfl _ _ HG1.out.res (by rw [rowOf_size];exact infoEnt) (by rw [rowOf_size,rowOf_size]) (vh o) ?_))
    exact bodyPost_ret (ko Tryz.results165 _ _ (w.heap.size+1) 229 _ (0,0) _ _ rfl rfl (HG1.out.res.setRow (opV o)) Tryz.underlying229 rfl infoEnt2) rfl ⟨congrArg Ending.returned HE.out,kn HG1.out.below (zc _) _⟩
   ·have hk':(o.key != k)=true:=by simpa using hk
    have hget':=hget;rw [Tr.get,if_neg hk] at hget';clear hget;by_cases hlt:k < o.key
    ·rw [if_pos hlt] at hget';have HQ:Hid (l.get k=t.get k):=hget';clear hget' HR
     go_wp2_with (first
      | (go_at_call 365;have hq:=N0;clear hq;refine (HK.out _).mono ?_;rintro e w1 ⟨rfl,hb1⟩;have N1:=N0.kept hb1;clear N0;have HG1:Hid (GetS w w1):=HG.out.kept hb1;obtain ⟨d0,d1,d2,d3,d4,d5⟩:=N1.op)
      | (go_at_call 365;refine (HK.out _).mono ?_;rintro e w2 ⟨rfl,hb2⟩;have N2:=N1.kept hb2;clear N1;have HG2:Hid (GetS w w2):=HG1.out.kept hb2;have d7:=N2.c7))
     go_roundg l.size
     case measure=>simp only [Tr.size];omega
     case rel=>exact ⟨l,HS.out.1.below N2.below,HS.out.2.2.1,HQ.out,rfl,HG2.out⟩
    ·rw [if_neg hlt] at hget';have HQ:Hid (r.get k=t.get k):=hget';clear hget' HR
     go_wp2_with (first
      | (go_at_call 365;have hq:=N0;clear hq;refine (HK.out _).mono ?_;rintro e w1 ⟨rfl,hb1⟩;have N1:=N0.kept hb1;clear N0;have HG1:Hid (GetS w w1):=HG.out.kept hb1;obtain ⟨d0,d1,d2,d3,d4,d5⟩:=N1.op)
      | (go_at_call 365;refine (HK.out _).mono ?_;rintro e w2 ⟨rfl,hb2⟩;have N2:=N1.kept hb2;clear N1;have HG2:Hid (GetS w w2):=HG1.out.kept hb2;have d8:=N2.c8))
     go_roundg r.size
     case measure=>simp only [Tr.size];omega
     case rel=>exact ⟨r,HS.out.2.1.below N2.below,HS.out.2.2.2,HQ.out,rfl,HG2.out⟩
def kdn (k:Int):Nat→Int
 | 0=>k
 | n+1=>kdn k n / 256
def kby (k:Int) (n:Nat) (m:Nat):Value:=U8 (if 8≤m+n then IntKind.u8.wrap (kdn k (7-m)) else 0)
theorem kby_step (k:Int) (n:Nat) (hn:n < 8) (m:Nat):(if m=7-n then U8 (IntKind.u8.wrap (kdn k n)) else kby k n m)=kby k (n+1) m:=by
 unfold kby
 by_cases h:m=7-n
 ·rw [if_pos h,if_pos (by omega),show 7-m=n by omega]
 ·rw [if_neg h];by_cases h2:8≤m+n
  ·rw [if_pos h2,if_pos (by omega)]
  ·rw [if_neg h2,if_neg (by omega)]
def kb8 (k:Int):List Int:=(List.range 8).map fun m=>IntKind.u8.wrap (kdn k (7-m))
theorem kb8_len (k:Int):(kb8 k).length=8:=by simp [kb8]
theorem kb8_byt (k:Int):Byt (kb8 k):=by
 intro x hx;obtain ⟨m,_,rfl⟩:=jt.1 hx;rw [IntKind.wrap_u8];omega
def rkN (s:ByteArray):Nat→Int
 | 0=>0
 | n+1=>bits .or .u64 (IntKind.u64.wrap (rkN s n*256)) (IntKind.u64.wrap (dig s n))
def rkOf (k:Int):Int:=rkN (strOfNums (kb8 k)) 8
theorem rank_any (o:Opn) (ho:KeyT o) (w:World) (hE:Env w):Cs 366 #[.agg (oC o)] w fun e w'=>e=.returned (U6 (rkOf o.key))∧Bel w w':=by
 have HK:Hid (∀ W,Cs 365 #[.agg (oC o)] W fun e w'=>e=.returned (U6 o.key)∧Bel W w'):=eKey_any o ho;have hE:Hid (Env w):=hE;unfold rkOf;generalize hkey:o.key=key at *;clear hkey ho;go_enter Tryz.func366,Tryz.ntmps366
 go_wp2_with (first
  | (go_at_call 365;refine (HK.out _).mono ?_;rintro e w1 ⟨rfl,hb1⟩))
 have hW:Bel w w1∧RowIs w1 (w.heap.size+1) 448 8 (kby key 0):=by
  have hz:(w.alloc (.cells (oC o) 229)).heap.size=w.heap.size+1:=by simp
  have h0:Bel w (w.alloc (.cells (oC o) 229)):=(qj _ _).alloc (qb _) _;have h1:=h0.alloc h0.size (.cells #[U8 0,U8 0,U8 0,U8 0,U8 0,U8 0,U8 0,U8 0] 448);have hr:=RowIs.last (w:=w.alloc (.cells (oC o) 229)) (t:=448) (f:=kby key 0) (n:=8) (cs:=#[U8 0,U8 0,U8 0,U8 0,U8 0,U8 0,U8 0,U8 0]) rfl rfl;rw [hz] at hr;exact ⟨h1.trans (hb1.mono h1.size),hr.below hb1 hr.lt⟩
 clear hb1 HK;go_loopw [4,5] (fun iv kv wr=>∃ n:Nat,n≤8∧iv=I6 (7-n)∧kv=U6 (kdn key n)∧RowIs wr (w.heap.size+1) 448 8 (kby key n)∧Bel w wr) (fun iv _ _=>((intOf iv)+1).toNat)
 case atStart=>exact ⟨0,qs _,rfl,rfl,hW.2,hW.1⟩
 case round=>
  obtain ⟨n,hn,rfl,rfl,hr,hbl⟩:=hrel;clear hW;by_cases hlt:n < 8
  ·have l0:(0:Int)≤7-n:=by omega
   have l8:(7:Int)-n < 8:=by omega
   have e0:((7:Int)-n).toNat=7-n:=by omega
   have c0:=hr.cell (show 7-n < 8 by omega);have f0:=hr.free (7-n);have HR:Hid (RowIs wr (w.heap.size+1) 448 8 (kby key n)):=hr;clear hr;go_wp2;go_roundw
   case rel=>exact ⟨n+1,hlt,by go_num,rfl,(HR.out.set (7-n) _).congr fun m _=>kby_step key n hlt m,hbl.setCell (show w.heap.size≤w.heap.size+1 from zc _) _⟩
   case measure=>simp [intOf];omega
  ·obtain rfl:n=8:=by omega
   have HS:Hid (Cs 117 #[.slice (some ⟨w.heap.size+1,0,none⟩) 8 8] wr fun e w'=>e=.returned (.agg (rowOf 32 fun n=>U8 (dig (strOfNums (kb8 key)) n)))∧Bel wr w'):=by
    have hEr:=hE.out.below hbl;have h:=shaB (w.heap.size+1) 0 8 (kb8 key) (kb8_byt key) wr hEr.glt hEr.table (fun i hi=>?_) hr.lt (by rw [kb8_len];decide) (by rw [kb8_len];decide)
    ·rw [kb8_len] at h;exact h
    ·have hi8:i < 8:=by rw [kb8_len] at hi;exact hi
     rw [q9,hr.cell hi8]
     unfold kby
     rw [if_pos (by omega)];simp [kb8]
   generalize hSS:strOfNums (kb8 key)=S at *;have HSS:Hid (strOfNums (kb8 key)=S):=hSS;clear hr hSS
   go_wp2_with (first
    | (go_at_call 117;refine HS.out.mono ?_;rintro e w2 ⟨rfl,hb2⟩;have hB2:=hbl.trans (hb2.mono hbl.size);have hr2:=RowIs.new w2 137 32 fun _=>U8 0)
    | (refine wpList_store_row rfl 137 (.tmp 6) (.tmp 23) rfl w2.heap.size _ rfl rfl _ _ hr2 (by rw [rowOf_size];exact info90) (by rw [rowOf_size,rowOf_size]) (ints_one _ _ _) ?_))
   have R0:RowIs (World.setRow (w2.alloc (.cells (rowOf 32 fun _=>U8 0) 137)) w2.heap.size (rowOf 32 fun n=>U8 (dig S n))) w2.heap.size 137 32 fun n=>U8 (dig S n):=hr2.setRow _;have B0:Bel w (World.setRow (w2.alloc (.cells (rowOf 32 fun _=>U8 0) 137)) w2.heap.size (rowOf 32 fun n=>U8 (dig S n))):=kn (hB2.alloc hB2.size _) hB2.size _;show Code.wp _ _ _ _ (World.setRow (w2.alloc (.cells (rowOf 32 fun _=>U8 0) 137)) w2.heap.size (rowOf 32 fun n=>U8 (dig S n)));generalize World.setRow (w2.alloc (.cells (rowOf 32 fun _=>U8 0) 137)) w2.heap.size (rowOf 32 fun n=>U8 (dig S n))=w3 at *;generalize w2.heap.size=G at *;clear hb2 HS hbl hr2 hB2 w2;go_loopw [7,26] (fun rv iv wr=>∃ j:Nat,j≤8∧rv=U6 (rkN S j)∧iv=I6 j∧RowIs wr G 137 32 (fun n=>U8 (dig S n))∧Bel w wr) (fun _ iv _=>8-(intOf iv).toNat)
   case atStart=>exact ⟨0,qs _,rfl,rfl,R0,B0⟩
   case round=>
    obtain ⟨j,hj,rfl,rfl,hr,hbl⟩:=hrel;clear R0 B0;by_cases hlt:j < 8
    ·have l8:(j:Int) < 8:=by omega
     have c0:=hr.cell (show j < 32 by omega);go_wp2;go_roundw
     case rel=>exact ⟨j+1,hlt,rfl,by go_num,hr,hbl⟩
     case measure=>simp [intOf];omega
    ·obtain rfl:j=8:=by omega
     go_wp2;go_ret;exact ⟨by rw [HSS.out];rfl,hbl⟩
theorem RowIs.type_eq {w:World} {g m:Nat} {s t:TypeId} {f k:Nat→Value} (h:RowIs w g s n f) (h2:RowIs w g t m k):s=t:=by
 have e:some (Obj.cells (rowOf n f) s (0,0))=some (Obj.cells (rowOf m k) t (0,0)):=h.symm.trans h2;simp only [jx,Obj.cells.injEq] at e;exact e.2.1
theorem mRank (a b c d e f:Int) (w:World):(Go.method 566 229 (.agg #[I6 a,U3 b,U3 c,U3 d,U6 e,I3 f]) "Rank").run Tryz.prog w=.ok (366,.agg #[I6 a,U3 b,U3 c,U3 d,U6 e,I3 f]) w:=by kernel_rfl
theorem tLen_any (t:Tr) (v:Value) (w:World) (hv:IsTr w v t) (hs:t.size≤9223372036854775807):Cs 194 #[.agg #[v]] w fun e w'=>e=.returned (I6 t.size)∧Bel w w':=by
 obtain ⟨pa,rfl⟩:=hv.ptr;have HC:Hid (∀ W,Bel w W→Cs 253 #[.pointer pa] W fun e w'=>e=.returned (I6 t.size)∧Bel W w'):=fun W hW=>count_any t _ W (hv.below hW) hs;have h0:∀ o,Bel w (w.alloc o):=fun o=>(qj _ _).alloc (qb _) _;have H0:Hid (∀ o,Bel w (w.alloc o)):=h0;clear hv hs h0;go_enter Tryz.func194,Tryz.ntmps194;go_wp2_with (go_at_call 253;refine (HC.out _ (H0.out _)).mono ?_;rintro e w1 ⟨rfl,hb1⟩);go_ret;exact ⟨rfl,(H0.out _).trans (hb1.mono (by simp))⟩
theorem sLen_any (t:Tr) (v:Value) (w:World) (hv:IsTr w v t) (hs:t.size≤9223372036854775807):Cs 116 #[.agg #[v]] w fun e w'=>e=.returned (I6 t.size)∧Bel w w':=by
 obtain ⟨pa,rfl⟩:=hv.ptr;have HC:Hid (∀ W,Bel w W→Cs 194 #[.agg #[.pointer pa]] W fun e w'=>e=.returned (I6 t.size)∧Bel W w'):=fun W hW=>tLen_any t _ W (hv.below hW) hs;have h0:∀ o,Bel w (w.alloc o):=fun o=>(qj _ _).alloc (qb _) _;have H0:Hid (∀ o,Bel w (w.alloc o)):=h0;clear hv hs h0;go_enter Tryz.func116,Tryz.ntmps116;go_wp2_with (go_at_call 194;refine (HC.out _ (H0.out _)).mono ?_;rintro e w1 ⟨rfl,hb1⟩);go_ret;exact ⟨rfl,(H0.out _).trans (hb1.mono (by simp))⟩
structure WithS (IT RT:TypeId) (w W:World) (pa:Option Addr) (o:Opn):Prop where
 below:Bel w W
 arg:W.cell? (Ad w.heap.size 0)=some (.pointer pa)
 item:RowIs W (w.heap.size+1) IT 6 (opV o)
 res:∃ q,RowIs W (w.heap.size+1+1) RT 1 (fun _=>.pointer q)
theorem WithS.kept {w W:World} {IT RT:TypeId} (h:WithS IT RT w W pa o) (hb:Bel W W2):WithS IT RT w W2 pa o:=⟨h.below.trans (hb.mono h.below.size),(hb.cell (block_lt_of_cell h.arg)).trans h.arg,h.item.below hb h.item.lt,h.res.elim fun q r=>⟨q,r.below hb r.lt⟩⟩
theorem WithS.drew {w W:World} {IT RT:TypeId} (h:WithS IT RT w W pa o):WithS IT RT w W.drew pa o:=⟨h.below.drew,h.arg,h.item.drew,h.res.elim fun q r=>⟨q,r.drew⟩⟩
theorem WithS.cells {w W:World} {IT RT:TypeId} (h:WithS IT RT w W pa o):W.cell? ⟨w.heap.size+1,0,none⟩=some (I6 o.kd)∧W.cell? ⟨w.heap.size+1,1,none⟩=some (U3 o.cl)∧W.cell? ⟨w.heap.size+1,2,none⟩=some (U3 o.ck)∧W.cell? ⟨w.heap.size+1,3,none⟩=some (U3 o.st)∧W.cell? ⟨w.heap.size+1,4,none⟩=some (U6 o.rf)∧W.cell? ⟨w.heap.size+1,5,none⟩=some (I3 o.ch):=
 ⟨h.item.cell (j:=0) (by omega),h.item.cell (j:=1) (by omega),h.item.cell (j:=2) (by omega),h.item.cell (j:=3) (by omega),h.item.cell (j:=4) (by omega),h.item.cell (j:=5) (by omega)⟩
theorem WithS.new (w:World) (pa:Option Addr) (o:Opn) (T IT RT:TypeId):WithS IT RT w (((w.alloc (.cells #[.pointer pa] T)).alloc (.cells (oC o) IT)).alloc (.cells #[.pointer none] RT)) pa o:=by
 have hz1:(w.alloc (.cells #[.pointer pa] T)).heap.size=w.heap.size+1:=by simp
 have hz2:((w.alloc (.cells #[.pointer pa] T)).alloc (.cells (oC o) IT)).heap.size=w.heap.size+1+1:=by simp
 have b1:Bel w (w.alloc (.cells #[.pointer pa] T)):=(qj _ _).alloc (qb _) _;have b2:=b1.alloc b1.size (.cells (oC o) IT);have b3:=b2.alloc b2.size (.cells #[.pointer none] RT);have r1:=RowIs.last (w:=w.alloc (.cells #[.pointer pa] T)) (t:=IT) (f:=opV o) (n:=6) (cs:=(oC o)) rfl rfl;have r2:=RowIs.last (w:=(w.alloc (.cells #[.pointer pa] T)).alloc (.cells (oC o) IT)) (t:=RT) (f:=fun _=>.pointer none) (n:=1) (cs:=#[.pointer none]) rfl rfl;rw [hz1] at r1;rw [hz2] at r2;refine ⟨b3,?_,r1.alloc _,none,r2⟩;rw [World.cell?_alloc_lt _ _ _ (by simp;omega),World.cell?_alloc_lt _ _ _ (by simp)];exact (cell_of_row _ _ _ _ _ _ (heap_alloc_new w _)).trans rfl
theorem Qr {w:World} {g n:Nat} {T:TypeId} {f:Nat→Value} (hr:RowIs w g T n f) (hT:T≠318) (cs:Array Value):∀ {t:Tr} {v:Value},IsTr w v t→IsTr (w.setRow g cs) v t
 | ⟨none⟩,_,h=>h
 | ⟨some (_,_,_,_)⟩,_,⟨b,vl,vr,e,hb,h1,h2⟩=>⟨b,vl,vr,e,hb.setRowOther (fun e=>hT (RowIs.type_eq hr (e▸hb))) _,Qr hr hT cs h1,Qr hr hT cs h2⟩
theorem WithS.put {w W:World} {IT RT:TypeId} (h:WithS IT RT w W pa o) (q:Option Addr):WithS IT RT w (W.setRow (w.heap.size+1+1) (rowOf 1 fun _=>.pointer q)) pa o:=by
 obtain ⟨q0,r⟩:=h.res;refine ⟨kn h.below (by omega) _,?_,h.item.setRowOther (by omega) _,q,r.setRow _⟩;exact (qz (a:=(Ad w.heap.size 0)) (setRow_other _ _ _ _ (by show w.heap.size≠w.heap.size+1+1;omega))).trans h.arg
theorem Qd (q:Option Addr):(rowOf 1 fun _=>Value.pointer q).all (·.oneCell')=true:=by
 have e:(rowOf 1 fun _=>Value.pointer q)=#[.pointer q]:=rfl;rw [e];simp [Value.oneCell']
theorem Qg:(Tryz.prog.info? 101).map (·.size)=some 1:=by kernel_rfl
theorem tWith_any (o:Opn) (ho:KeyT o) (t:Tr) (v:Value) (w:World) (hv:IsTr w v t) (ht:t.T) (hE:Env w):Cs 233 #[.agg #[v],.agg (oC o)] w fun e w'=>(∃ p,e=.returned (.agg #[p])∧IsTr w' p (t.with o (rkOf o.key)))∧Bel w w':=by
 obtain ⟨pa,rfl⟩:=hv.ptr;have HR:Hid (∀ W,Bel w W→Cs 366 #[.agg (oC o)] W fun e w'=>e=.returned (U6 (rkOf o.key))∧Bel W w'):=fun W hW=>rank_any o ho W (hE.below hW);have HW:Hid (∀ W fb,Bel w W→RowIs W fb 318 9 (nd9 o (rkOf o.key) (.pointer none) (.pointer none))→Cs 273 #[.pointer pa,(pt fb 0)] W fun e w'=>(∃ p,e=.returned p∧IsTr w' p (t.with o (rkOf o.key)))∧Bel W w'):=fun W fb hW hF=>with_any o (rkOf o.key) ho fb t _ W (hv.below hW) ht hF;have hm:=mRank o.kd o.cl o.ck o.st o.rf o.ch;have H0:Hid (WithS 229 101 w _ pa o):=WithS.new w pa o 101 229 101;generalize rkOf o.key=rk at *;generalize t.with o rk=t2 at *;clear hv ht hE ho;go_enter Tryz.func233,Tryz.ntmps233;go_wp2;refine wp_region_held_drew (S:=fun w'=>WithS 229 101 w w' pa o) (by kernel_rfl) H0.out.drew (fun hHeld=>?_);clear H0;generalize World.drew _=wD at hHeld ⊢;refine ks 0 5 ?_;refine x9 1 6 (fun _ h=>h.arg) ?_;refine x9 2 7 (fun _ h=>h.cells) ?_;refine x9 3 8 (fun _ h=>h.cells) ?_;refine ks 4 9 ?_;refine rd 5 (some 10) rfl (fun K hK=>?_);go_simp;refine (HR.out _ hHeld.below).mono ?_;rintro e w1 ⟨rfl,hb1⟩;refine hK.out _ _ (hHeld.kept hb1) (fun hHeld=>?_);clear hK K hb1;refine ks 6 11 ?_;refine rd 7 (some 12) rfl (fun K hK=>?_);go_simp;have R:RowIs (w1.alloc (.cells #[I6 o.kd,U3 o.cl,U3 o.ck,U3 o.st,U6 o.rf,I3 o.ch,U6 rk,.pointer none,.pointer none] 318)) w1.heap.size 318 9 (nd9 o rk (.pointer none) (.pointer none)):=RowIs.last rfl rfl;refine hK.out _ _ (hHeld.kept (kq _ _)) (fun hHeld=>?_);clear hK K;refine rd 8 (some 13) rfl (fun K hK=>?_);go_simp;refine (HW.out _ _ hHeld.below R).mono ?_;rintro e w2 ⟨⟨p,rfl,hp⟩,hb2⟩;obtain ⟨pb,rfl⟩:=hp.ptr;have HQ:Hid (IsTr w2 (.pointer pb) t2):=hp;clear hp R;refine hK.out _ _ (hHeld.kept hb2) (fun hHeld=>?_);clear hK K hb2;refine ks 9 14 ?_;obtain ⟨q0,R0⟩:=hHeld.res;refine rd 10 none rfl (fun K hK=>?_);rw [if_pos (by rfl)];refine wp_store_row 101 (.tmp 4) (.tmp 14) rfl (w.heap.size+1+1) (rowOf 1 fun _=>.pointer pb) rfl rfl _ _ R0 (by rw [rowOf_size];exact Qg) (by rw [rowOf_size,rowOf_size]) (Qd pb) ?_;have R1:=R0.setRow (fun _=>.pointer pb);have HQ2:Hid (IsTr (World.setRow w2 (w.heap.size+1+1) (rowOf 1 fun _=>.pointer pb)) (.pointer pb) t2):=Qr R0 (by decide) _ HQ.out;refine hK.out _ _ (hHeld.put pb) (fun hHeld=>?_);clear hK K;refine xy ?_;go_wp2_with fail;exact bodyPost_ret (results_cell_row Tryz.results233 _ _ (w.heap.size+1+1) 101 _ (0,0) _ rfl R1 Tryz.underlying101 rfl (by rw [rowOf_size];exact Qg)) rfl ⟨⟨_,rfl,HQ2.out⟩,hHeld.below⟩
theorem infoSet:(Tryz.prog.info? 103).map (·.size)=some 1:=by kernel_rfl
theorem sWith_any (o:Opn) (ho:KeyT o) (t:Tr) (v:Value) (w:World) (hv:IsTr w v t) (ht:t.T) (hE:Env w):Cs 169 #[.agg #[v],.agg (oC o)] w fun e w'=>(∃ p,e=.returned (.agg #[p])∧IsTr w' p (t.with o (rkOf o.key)))∧Bel w w':=by
 obtain ⟨pa,rfl⟩:=hv.ptr;have HW:Hid (∀ W,Bel w W→Cs 233 #[.agg #[.pointer pa],.agg (oC o)] W fun e w'=>(∃ p,e=.returned (.agg #[p])∧IsTr w' p (t.with o (rkOf o.key)))∧Bel W w'):=fun W hW=>tWith_any o ho t _ W (hv.below hW) ht (hE.below hW);have H0:Hid (WithS 43 103 w _ pa o):=WithS.new w pa o 103 43 103;obtain ⟨a0,a1,a2,a3,a4,a5⟩:=H0.out.cells;have aa:=H0.out.arg;generalize t.with o (rkOf o.key)=t2 at *;clear hv ht hE ho;go_enter Tryz.func169,Tryz.ntmps169
 go_wp2_with (first
  | (go_at_call 233;refine (HW.out _ H0.out.below).mono ?_;rintro e w1 ⟨⟨p,rfl,hp⟩,hb1⟩;obtain ⟨pb,rfl⟩:=hp.ptr;have H1:=H0.out.kept hb1;obtain ⟨q0,R0⟩:=H1.res;have HQ:Hid (IsTr w1 (.pointer pb) t2∧Bel w w1):=⟨hp,H1.below⟩;clear hp H1)
  | (refine wpList_store_row rfl 103 (.tmp 4) (.tmp 10) rfl (w.heap.size+1+1) (rowOf 1 fun _=>.pointer pb) rfl rfl _ _ R0 (by rw [rowOf_size];exact infoSet) (by rw [rowOf_size,rowOf_size]) (Qd pb) ?_))
 exact bodyPost_ret (results_cell_row Tryz.results169 _ _ (w.heap.size+1+1) 103 _ (0,0) _ rfl (R0.setRow (fun _=>.pointer pb)) Tryz.underlying103 rfl (by rw [rowOf_size];exact infoSet)) rfl ⟨⟨_,rfl,Qr R0 (by decide) _ HQ.out.1⟩,kn HQ.out.2 (by omega) _⟩
theorem getV_form (x:Option Opn):∃ (o:Opn) (b:Bool),getV x=.tuple #[.agg (oC o),.bool b]:=by
 cases x with
 | none=>exact ⟨o0,false,rfl⟩
 | some o=>exact ⟨o,true,rfl⟩
theorem vd:(Tryz.prog.info? 43).map (·.size)=some 6:=by kernel_rfl
theorem sGet_any (k:Int) (t:Tr) (v:Value) (w:World) (hv:IsTr w v t) (ht:t.T):Cs 94 #[.agg #[v],U6 k] w fun e w'=>e=.returned (getV (t.get k))∧Bel w w':=by
 obtain ⟨pa,rfl⟩:=hv.ptr;have hG:=fun W (hW:Bel w W)=>get_any k t _ W (hv.below hW) ht;obtain ⟨o,b,he⟩:=getV_form (t.get k);rw [he];have HG:Hid (∀ W,Bel w W→Cs 165 #[.agg #[.pointer pa],U6 k] W fun e w'=>e=.returned (.tuple #[.agg (oC o),.bool b])∧Bel W w'):=he▸hG
 have H0:Hid (Bel w ((w.alloc (.cells #[.pointer pa] 103)).alloc (.cells oZ 43))∧RowIs ((w.alloc (.cells #[.pointer pa] 103)).alloc (.cells oZ 43)) (w.heap.size+1) 43 6 (opV o0)):=by
  have h0:Bel w (w.alloc (.cells #[.pointer pa] 103)):=(qj _ _).alloc (qb _) _;have hz:(w.alloc (.cells #[.pointer pa] 103)).heap.size=w.heap.size+1:=by simp
  have hr:=RowIs.last (w:=w.alloc (.cells #[.pointer pa] 103)) (t:=43) (f:=opV o0) (cs:=oZ) (n:=6) rfl rfl;rw [hz] at hr;exact ⟨h0.alloc h0.size _,hr⟩
 have aa:((w.alloc (.cells #[.pointer pa] 103)).alloc (.cells oZ 43)).cell? (Ad w.heap.size 0)=some (.pointer pa):=(World.cell?_alloc_lt _ _ (Ad w.heap.size 0) (by simp)).trans ((cell_of_row _ _ _ _ _ _ (heap_alloc_new w _)).trans rfl);clear hv ht hG he;go_enter Tryz.func94,Tryz.ntmps94
 go_wp2_with (first
  | (go_at_call 165;refine (HG.out _ H0.out.1).mono ?_;rintro e w1 ⟨rfl,hb1⟩;have HR:Hid (RowIs w1 (w.heap.size+1) 43 6 (opV o0)∧Bel w w1):=⟨H0.out.2.below hb1 H0.out.2.lt,H0.out.1.trans (hb1.mono H0.out.1.size)⟩)
  | (refine wpList_store_row rfl 43 (.tmp 4) (.tmp 16) rfl (w.heap.size+1) (rowOf 6 (opV o)) rfl rfl _ _ (HR.out.1.alloc _) (by rw [rowOf_size];exact vd) (by rw [rowOf_size,rowOf_size]) (vh o) ?_))
 exact bodyPost_ret (ko Tryz.results94 _ _ (w.heap.size+1) 43 _ (0,0) _ _ rfl rfl ((HR.out.1.alloc _).setRow (opV o)) Tryz.underlying43 rfl (by rw [rowOf_size];exact vd)) rfl ⟨rfl,kn (HR.out.2.alloc HR.out.2.size _) (zc _) _⟩
theorem xu (os:List Opn):(opCs os).length=os.length*6:=by
 induction os with
 | nil=>rfl
 | cons o os ih=>rw [opCs,qe,ih,qp];simp;omega
theorem opCs_one (os:List Opn):∀ v∈opCs os,v.oneCell'=true:=by
 induction os with
 | nil=>intro v h;cases h
 | cons o os ih=>
  intro v h;rw [opCs,zd] at h;rcases h with h | h
  ·simp only [qu,yr,or_false] at h;rcases h with rfl | rfl | rfl | rfl | rfl | rfl <;> rfl
  ·exact ih v h
section
variable {w W w2 : World} {k s lo hi d0 d1 d2 ops : Value}
end

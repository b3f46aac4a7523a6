import Derived.Test.YtgccjefbedpmpaaGreatDoorKTA
import Derived.Test.YtgccjefbedpmpaaGreatDoorYTk
import Derived.Test.YtgccjefbedpmpaaGreatDoorKRC
namespace Go.Proofs.YtgccjefbedpmpaaGreatDoor
open Go.RowKit
set_option maxRecDepth 100000
set_option maxHeartbeats 8000000
variable {B C b cap g i ii jj m n : Nat} {M l ws : List Opn} {W' w' : World} {cl ss : Int} {f fa : Nat→Value} {o : Opn} {pa : Option Addr} {v vK vW x : Value}
theorem replS_any (g cap B i vb vc:Nat) (l x:List Sp) (w:World) (h:OwnS w B (.slice (some (Ad g 0)) l.length cap) l) (hl:l.length≤1000000) (hi:i < l.length) (hm1:1≤x.length∧x.length≤3)
  (hx:∀ j u,(spCs x)[j]?=some u→w.cell? (Ad vb j)=some u) (hvb:vb≠g) (tA:TypeId) (kA:Nat) (hsa:w.shape? vb=some (tA,kA)) (hkA:kA≠0) :
  Cs 258 #[.slice (some (Ad g 0)) l.length cap,I6 i,I6 ((i+1:Nat):Int),.slice (some (Ad vb 0)) x.length vc] w fun e w'=>ReplP w B g l x i e w':=by
 have hvw:vb < w.heap.size:=by
  have:(spCs x)[0]?=some (U6 x[0].lo):=(spCs_get x hm1.1).1;exact block_lt_of_cell (hx 0 _ this)
 by_cases h1:i+1=l.length
 ·exact replS_end g cap B l.length i (i+1) x.length vb vc l x w h rfl hl rfl h1 rfl hm1 hx
 ·rcases zr cap (l.length-1+x.length) with q | q
  ·exact replS_grow g cap B l.length i (i+1) x.length vb vc l x w h rfl hl rfl (by omega) rfl hm1 q hx hvw
  ·by_cases h2:x.length=1
   ·exact replS_same g cap B l.length i (i+1) x.length vb vc l x w h rfl hl rfl (by omega) rfl h2 q hx hvb
   ·exact replS_more g cap B l.length i (i+1) x.length vb vc l x w h rfl hl rfl (by omega) rfl (by omega) q hx hvb tA kA hsa hkA
def cutS (s:Sp) (k:Int):List Sp:=([⟨s.lo,k⟩,⟨k,k+1⟩,⟨k+1,s.hi⟩]:List Sp).filter fun s=>!emp s
theorem cutS_len (s:Sp) (k:Int):1≤(cutS s k).length∧(cutS s k).length≤3:=by
 unfold cutS;constructor
 ·refine List.length_pos_of_mem (a:=⟨k,k+1⟩) (qo.2 ⟨by simp,?_⟩);unfold emp;simp;omega
 ·exact zz _ _
theorem own3 (w:World) (B:Nat) (x:List Sp) (hx:x.length=3) (hB:B≤w.heap.size):OwnS (w.alloc (.cells (spCs x).toArray 186)) B (.slice (some (Ad w.heap.size 0)) x.length 3) x:=
 ⟨vz x,Or.inr ⟨w.heap.size,3,_,rfl,hB,heap_alloc_new _ _,by omega,by unfold maxLen;omega,by simp [vz,hx],by rw [ja (by simp [vz])]⟩⟩
theorem own3b (w:World) (A:Obj) (x:List Sp) (hx:x.length=3):OwnS ((w.alloc A).alloc (.cells (spCs x).toArray 186)) w.heap.size (.slice (some ⟨w.heap.size+1,0,none⟩) x.length 3) x:=by
 have:=own3 (w.alloc A) w.heap.size x hx (by simp);rw [show (w.alloc A).heap.size=w.heap.size+1 by simp] at this;exact this
theorem OwnS.there {w:World} {x:List Sp} (h:OwnS w B (.slice (some (Ad g 0)) n cap) x) (h0:0 < x.length):(∀ j u,(spCs x)[j]?=some u→w.cell? (Ad g j)=some u)∧∃ kA,w.shape? g=some (186,kA)∧kA≠0:=by
 obtain ⟨hn,hc⟩:=h.at0;subst hn;refine ⟨fun j u hu=>?_,?_⟩
 ·have:=(zn.1 hu).1;rw [vz] at this;exact (za h j this).trans hu
 ·rcases h.2 with ⟨e0,_⟩ | ⟨g',cap',cur,e0,h1,h2,h3,h4,h5,h6⟩
  ·cases e0
  ·cases e0;exact ⟨cur.size,by unfold World.shape?;rw [h2],by omega⟩
theorem split_any (b:Nat) (st cl ss:Int) (top vW v:Value) (l:List Sp) (at' B:Nat) (k:Int) (w:World) (hr:RowIs w b 118 7 (rep7 st cl top vW ss v)) (hO:OwnS w B v l) (hl:l.length≤1000000) (hat:at' < l.length) (hk:0≤k∧k < 1099511627776) :
  Cs 201 #[(pt b 6),I6 at',U6 k] w fun e w'=>e=.returned (.tuple #[])∧WorkP w w' b st cl ss top vW v B (replL l (cutS l[at'] k) at'):=by
 obtain ⟨a,c,rfl⟩:=hO.form;obtain ⟨g,rfl⟩:=hO.ptr (by omega);have hne:g≠b:=fun e=>hO.notRow hr (by rw [e];rfl);have la:(at':Int) < (l.length:Int):=by omega
 have e1:IntKind.i64.wrap ((at':Int)+1)=((at'+1:Nat):Int):=by rw [IntKind.wrap_i64];omega
 have e2:IntKind.u64.wrap (k+1)=k+1:=by rw [IntKind.wrap_u64];omega
 have c6:w.cell? (Ad b 6)=some (.slice (some (Ad g 0)) l.length c):=hr.cell (j:=6) (by omega);obtain ⟨k0,k1⟩:=hO.cells hat;have HR:=km hr;have HO:=km hO;have HN:=km hne;clear hr hO hne;go_enter Tryz.func201,Tryz.ntmps201
 go_wp2_with (first
  | (go_at_call 256;refine (delFuncS_any (w.heap.size+1) 3 w.heap.size [⟨l[at'].lo,k⟩,⟨k,k+1⟩,⟨k+1,l[at'].hi⟩] _ (own3b w (.cells #[U6 l[at'].lo,U6 l[at'].hi] 186) [⟨l[at'].lo,k⟩,⟨k,k+1⟩,⟨k+1,l[at'].hi⟩] rfl) (by simp)).mono ?_;rintro e w3 ⟨n3,rfl,ho3,hb3⟩;have ho3:OwnS w3 w.heap.size (.slice (some ⟨w.heap.size+1,0,none⟩) n3 3) (cutS l[at'] k):=ho3;obtain rfl:n3=(cutS l[at'] k).length:=ho3.at0.1;have HB2:Bel w ((w.alloc (.cells #[U6 l[at'].lo,U6 l[at'].hi] 186)).alloc (.cells #[U6 l[at'].lo,U6 k,U6 k,U6 (k+1),U6 (k+1),U6 l[at'].hi] 186)):=((qj _ _).alloc (qb _) _).alloc (by simp) _;have hgl:=qf HO.out g rfl;have R3':RowIs w3 b 118 7 (rep7 st cl top vW ss (.slice (some (Ad g 0)) l.length c)):=(HR.out.below HB2 HR.out.lt).but hb3 (fun q=>by have q:=qq q;have:=HR.out.lt;omega);have o3:OwnS w3 B (.slice (some (Ad g 0)) l.length c) l:=kp (HO.out.keep HB2) (fun x hx=>hb3.block x (qf (HO.out.keep HB2) x hx).2 (fun q=>by have hx:g=x:=qq hx;have q:=qq q;omega));have c63:w3.cell? (Ad b 6)=some (.slice (some (Ad g 0)) l.length c):=R3'.cell (j:=6) (by omega);have bu3:But (fun x=>x=b∨((.slice (some (Ad g 0)) l.length c):Value).ownBlock=some x) w w3:=⟨qi HB2.size hb3.size,hb3.os.trans HB2.os,hb3.tape.trans HB2.tape,hb3.output.trans HB2.output,fun x hx _=>(hb3.block x (ql hx HB2.size) (fun q=>by have q:=qq q;omega)).trans (HB2.block x hx)⟩;have H3:=km (qd ho3 (qd R3' (qd o3 (qd bu3 hgl))));clear ho3 hb3 HB2 R3' o3 bu3 hgl)
  | (go_at_call 258;obtain ⟨hcs,kA,hsa,hkA⟩:=H3.out.1.there (cutS_len _ _).1;refine (replS_any g c B at' (w.heap.size+1) 3 l (cutS l[at'] k) w3 H3.out.2.2.1 hl hat (cutS_len _ _) hcs (by have:=H3.out.2.2.2.2;omega) _ kA hsa hkA).mono ?_;rintro e w4 ⟨v4,rfl,ho4,hv4,hb4⟩;obtain ⟨a4,n4,c4,rfl⟩:∃ a n c,v4=.slice a n c:=(by obtain ⟨a,c,e⟩:=ho4.form;exact ⟨_,_,_,e⟩);have R4:RowIs w4 b 118 7 (rep7 st cl top vW ss (.slice (some (Ad g 0)) l.length c)):=H3.out.2.1.but hb4 (fun q=>HN.out (qq q));have c64:w4.cell? (Ad b 6)=some (.slice (some (Ad g 0)) l.length c):=R4.cell (j:=6) (by omega);have f64:=R4.free 6;have H4:=km (qd ho4 (qd hv4 (qd hb4 R4)));clear ho4 hv4 hb4 R4 hcs hsa hkA))
 go_end0;have s3:=H3.out.2.2.2.1.size;have hbl:=HR.out.lt;refine ⟨rfl,_,?_,rep_work H4.out.2.2.2 _,?_,(H3.out.2.2.2.1.trans (H4.out.2.2.1.mono fun x e=>Or.inr e)).trans ((But.set b 6 _).mono fun x e=>Or.inl e)⟩
 ·refine kp H4.out.1 fun x hx=>(But.set b 6 _).block x (qf H4.out.1 x hx).2 fun q=>?_;have q:x=b:=q;rcases H4.out.2.1 with e | ⟨g',e,hle⟩
  ·rw [e] at hx;have:=qq hx;exact HN.out (by omega)
  ·rw [e] at hx;have:=qq hx;omega
 ·rcases H4.out.2.1 with e | ⟨g',e,hle⟩
  ·exact Or.inl e
  ·exact Or.inr ⟨g',e,by omega⟩
theorem keyOf_any (o:Opn) (h:KeyT o) (w:World):Cs 93 #[.agg #[I6 o.kd,U3 o.cl,U3 o.ck,U3 o.st,U6 o.rf,I3 o.ch]] w fun e w'=>e=.returned (U6 o.key)∧Bel w w':=kz o.kd o.cl o.ck o.st o.rf o.ch h.1 h.2 w
theorem lack2_any (x o:Opn) (hx:KeyT x) (ho:KeyT o) (bo:Nat) (w:World) (hr:RowIs w bo 43 6 (opV o)):Cs 263 #[.agg #[I6 x.kd,U3 x.cl,U3 x.ck,U3 x.st,U6 x.rf,I3 x.ch],(pt bo 0)] w fun e w'=>e=.returned (.bool (x.key==o.key))∧Bel w w':=by
 have HT:=km (qd hx ho);have HS0:Hid (RowIs (w.alloc (.cells #[I6 x.kd,U3 x.cl,U3 x.ck,U3 x.st,U6 x.rf,I3 x.ch] 43)) w.heap.size 43 6 (opV x)∧RowIs (w.alloc (.cells #[I6 x.kd,U3 x.cl,U3 x.ck,U3 x.st,U6 x.rf,I3 x.ch] 43)) bo 43 6 (opV o)∧Bel w (w.alloc (.cells #[I6 x.kd,U3 x.cl,U3 x.ck,U3 x.st,U6 x.rf,I3 x.ch] 43))):=km ⟨RowIs.last rfl rfl,hr.alloc _,kq _ _⟩;clear hx ho hr;go_enter Tryz.func263,Tryz.ntmps263;go_wp2_with fail;refine wp_region_held_drew (S:=fun W=>RowIs W w.heap.size 43 6 (opV x)∧RowIs W bo 43 6 (opV o)∧Bel w W) (by kernel_rfl) (⟨HS0.out.1.drew,HS0.out.2.1.drew,HS0.out.2.2.drew⟩) (fun hHeld=>?_);generalize World.drew _=wD at hHeld ⊢;refine tk 0 4 rfl (Or.inl ⟨by rfl,fun W hS=>by have y0:=hS.1.cell (j:=0) (by omega);have y1:=hS.1.cell (j:=1) (by omega);have y2:=hS.1.cell (j:=2) (by omega);have y3:=hS.1.cell (j:=3) (by omega);have y4:=hS.1.cell (j:=4) (by omega);have y5:=hS.1.cell (j:=5) (by omega);simp only [opV] at y0 y1 y2 y3 y4 y5;go_simp;rfl⟩) hHeld ?_;simp only [Act.put,Qc,Qb,Qa];refine tk 2 6 rfl (Or.inl ⟨by rfl,fun W hS=>by have y0:=hS.2.1.cell (j:=0) (by omega);have y1:=hS.2.1.cell (j:=1) (by omega);have y2:=hS.2.1.cell (j:=2) (by omega);have y3:=hS.2.1.cell (j:=3) (by omega);have y4:=hS.2.1.cell (j:=4) (by omega);have y5:=hS.2.1.cell (j:=5) (by omega);simp only [opV] at y0 y1 y2 y3 y4 y5;go_simp;rfl⟩) hHeld ?_;simp only [Act.put,Qc,Qb,Qa];refine rd 1 (some 5) rfl (fun K hK=>?_);go_simp;refine (keyOf_any x HT.out.1 _).mono ?_;rintro e w1 ⟨rfl,hb1⟩;refine hK.out _ _ ⟨hHeld.1.below hb1 hHeld.1.lt,hHeld.2.1.below hb1 hHeld.2.1.lt,hHeld.2.2.trans (hb1.mono hHeld.2.2.size)⟩ (fun hHeld=>?_);clear hK K hb1;refine rd 3 (some 7) rfl (fun K hK=>?_);go_simp;refine (keyOf_any o HT.out.2 _).mono ?_;rintro e w2 ⟨rfl,hb2⟩;refine hK.out _ _ ⟨hHeld.1.below hb2 hHeld.1.lt,hHeld.2.1.below hb2 hHeld.2.1.lt,hHeld.2.2.trans (hb2.mono hHeld.2.2.size)⟩ (fun hHeld=>?_);clear hK K hb2;refine tk 4 8 rfl (Or.inl ⟨by rfl,fun W hS=>by go_simp;rfl⟩) hHeld ?_;simp only [Act.put,Qc,Qb,Qa];refine rd 5 (some 3) rfl (fun K hK=>?_);go_simp;refine hK.out _ _ hHeld (fun hHeld=>?_);clear hK K;refine xy ?_;go_wp2_with fail;go_ret;exact ⟨rfl,hHeld.2.2⟩
def hasK (told:List Opn) (o:Opn):Bool:=told.any fun x=>x.key==o.key
theorem ixfC_any (o:Opn) (ho:KeyT o) (bo:Nat) (a:Option Addr) (cap:Nat) (os:List Opn) (w:World) (hr:RowIs w bo 43 6 (opV o)) (hO:OpsIs w a os) (hK:∀ x∈os,KeyT x) (hn:os.length≤1000000) :
  Cs 170 #[.slice a os.length cap,.func (.func 263) #[] #[(pt bo 0)]] w fun e w'=>(∃ n:Int,e=.returned (I6 n)∧((0≤n)↔hasK os o=true))∧Bel w w':=by
 have HC:Hid (∀ x∈os,∀ W,Bel w W→Cs 263 #[.agg #[I6 x.kd,U3 x.cl,U3 x.ck,U3 x.st,U6 x.rf,I3 x.ch],(pt bo 0)] W fun e w'=>e=.returned (.bool (x.key==o.key))∧Bel W w'):=km fun x hx W hW=>lack2_any x o (hK x hx) ho bo W (hr.below hW hr.lt);have HO:=km hO;clear hO hK hr ho;go_enter Tryz.func170,Tryz.ntmps170;go_wp2_with fail;go_loopw [8] (fun iv wr=>∃ i:Nat,i≤os.length∧iv=I6 i∧Hid (Bel w wr)∧Hid (∀ k (hk:k < os.length),k < i→(os[k].key==o.key)=false)) (fun iv _=>os.length-(intOf iv).toNat)
 case atStart=>exact ⟨0,qs _,rfl,qj _ _,fun k _ h=>absurd h (yl _)⟩
 case round=>
  obtain ⟨i,hi,rfl,HB,I⟩:=hrel;by_cases hlt:i < os.length
  ·have li:(i:Int) < (os.length:Int):=by omega
   rcases HO.out with rfl | ⟨g,off,rfl,hO⟩
   ·cases hlt
   obtain ⟨c0,c1,c2,c3,c4,c5⟩:=(hO.below HB.out).cells hlt;have hCi:=HC.out os[i] (qn hlt) _ HB.out;have HM:Hid ((os[i].key==o.key)=true→hasK os o=true):=km fun h=>List.any_eq_true.2 ⟨_,qn hlt,h⟩
   have HN:Hid ((os[i].key==o.key)=false→∀ k (hk:k < os.length),k < i+1→(os[k].key==o.key)=false):=km fun h k hk hk'=>by
    rcases zr k i with q | q
    ·exact I.out k hk q
    ·obtain rfl:k=i:=by omega
     exact h
   generalize (os[i].key==o.key)=P at *;generalize os[i]=x at *;have HCi:=km hCi;clear hCi hO;cases P
   ·go_wp2_with (go_at_call 263;refine HCi.out.mono ?_;rintro e w1 ⟨rfl,hb1⟩);go_roundw
    case rel=>exact ⟨i+1,hlt,by go_num,HB.out.trans (hb1.mono HB.out.size),HN.out (by trivial)⟩
    case measure=>simp [intOf];omega
   ·go_wp2_with (go_at_call 263;refine HCi.out.mono ?_;rintro e w1 ⟨rfl,hb1⟩);go_ret;exact ⟨⟨_,rfl,fun _=>HM.out (by trivial),fun _=>by omega⟩,HB.out.trans (hb1.mono HB.out.size)⟩
  ·have li:¬ (i:Int) < (os.length:Int):=by omega
   go_wp2_with fail;go_ret;refine ⟨⟨-1,rfl,fun h=>by omega,fun h=>?_⟩,HB.out⟩;obtain ⟨x,hx,e⟩:=List.any_eq_true.1 h;obtain ⟨k,hk,rfl⟩:=qw.1 hx;rw [I.out k hk (by omega)] at e;cases e
theorem hasC_any (o:Opn) (ho:KeyT o) (bo:Nat) (a:Option Addr) (cap:Nat) (os:List Opn) (w:World) (hr:RowIs w bo 43 6 (opV o)) (hO:OpsIs w a os) (hK:∀ x∈os,KeyT x) (hn:os.length≤1000000) :
  Cs 262 #[.slice a os.length cap,.func (.func 263) #[] #[(pt bo 0)]] w fun e w'=>e=.returned (.bool (hasK os o))∧Bel w w':=by
 have HI:=km (ixfC_any o ho bo a cap os w hr hO hK hn);clear ho hr hO hK;go_enter Tryz.func262,Tryz.ntmps262;go_wp2_with (go_at_call 170;refine HI.out.mono ?_;rintro e w1 ⟨⟨n,rfl,hn1⟩,hb1⟩;have H1:=km (qd hn1 hb1);clear hn1 hb1);go_ret;refine ⟨?_,H1.out.2⟩;have h1:=H1.out.1
 cases hq:hasK os o with
 | true=>have:=h1.2 hq;simp [this]
 | false=>
  have:¬ 0≤n:=fun q=>by rw [h1.1 q] at hq;cases hq
  simp [this]
theorem lack1_any (o:Opn) (ho:KeyT o) (bt:Nat) (a:Option Addr) (cap:Nat) (os:List Opn) (w:World) (hr:RowIs w bt 32 1 (fun _=>.slice a os.length cap)) (hO:OpsIs w a os) (hK:∀ x∈os,KeyT x) (hn:os.length≤1000000) :
  Cs 261 #[.agg #[I6 o.kd,U3 o.cl,U3 o.ck,U3 o.st,U6 o.rf,I3 o.ch],(pt bt 0)] w fun e w'=>e=.returned (.bool (hasK os o))∧Bel w w':=by
 have c0:(w.alloc (.cells #[I6 o.kd,U3 o.cl,U3 o.ck,U3 o.st,U6 o.rf,I3 o.ch] 43)).cell? (Ad bt 0)=some (.slice a os.length cap):=(hr.alloc _).cell (j:=0) (by omega);have HI:=km (hasC_any o ho w.heap.size a cap os (w.alloc (.cells #[I6 o.kd,U3 o.cl,U3 o.ck,U3 o.st,U6 o.rf,I3 o.ch] 43)) (RowIs.last rfl rfl) (hO.below (kq _ _)) hK hn);clear ho hr hO hK;go_enter Tryz.func261,Tryz.ntmps261;go_wp2_with (go_at_call 262;refine HI.out.mono ?_;rintro e w1 ⟨rfl,hb1⟩;have H1:=km hb1;clear hb1);go_ret;exact ⟨rfl,(kq _ _).trans (H1.out.mono (by simp))⟩
theorem OwnO.len0 {w:World} (h:OwnO w B (.slice (some (Ad g 0)) n cap) l):n=l.length∧n≤cap:=by
 rcases h.2 with ⟨e,-⟩ | ⟨g',cap',cur,e,-,-,q,-⟩
 ·cases e
 ·simp only [Value.slice.injEq] at e;obtain ⟨-,e2,e3⟩:=e;omega
theorem OwnO.six {w:World} (h:OwnO w B (.slice (some (Ad g 0)) n cap) l) (hi:i < l.length):w.cell? ⟨g,i*6,none⟩=some (I6 l[i].kd)∧w.cell? ⟨g,i*6+1,none⟩=some (U3 l[i].cl)∧w.cell? ⟨g,i*6+2,none⟩=some (U3 l[i].ck)∧w.cell? ⟨g,i*6+3,none⟩=some (U3 l[i].st)∧w.cell? ⟨g,i*6+4,none⟩=some (U6 l[i].rf)∧w.cell? ⟨g,i*6+5,none⟩=some (I3 l[i].ch):=by
 have:=(OwnO.at0 h).cells hi;simp only [q9] at this;exact this
def PredO (w:World) (g bt:Nat) (p:Opn→Bool) (l:List Opn):Prop:=∀ x∈l,∀ W,But (fun b=>some g=some b) w W→Cs 261 #[.agg #[I6 x.kd,U3 x.cl,U3 x.ck,U3 x.st,U6 x.rf,I3 x.ch],(pt bt 0)] W fun e w'=>e=.returned (.bool (p x))∧Bel W w'
theorem ixfD_any (g cap B bt:Nat) (p:Opn→Bool) (l:List Opn) (w:World) (hO:OwnO w B (.slice (some (Ad g 0)) l.length cap) l) (hP:PredO w g bt p l) (hn:l.length≤1000000) :
  Cs 170 #[.slice (some (Ad g 0)) l.length cap,.func (.func 261) #[] #[(pt bt 0)]] w fun e w'=>(∃ x:Int,e=.returned (I6 x)∧((∃ i:Nat,x=i∧∃ h:i < l.length,p l[i]=true∧∀ j (hj:j < i),p l[j]=false)∨(x=-1∧∀ x∈l,p x=false)))∧Bel w w':=by
 have HO:=km hO;have HP:=km hP;clear hO hP;go_enter Tryz.func170,Tryz.ntmps170;go_wp2_with fail;go_loopw [8] (fun iv wr=>∃ i:Nat,i≤l.length∧iv=I6 i∧Hid (Bel w wr)∧Hid (∀ k (hk:k < l.length),k < i→p l[k]=false)) (fun iv _=>l.length-(intOf iv).toNat)
 case atStart=>exact ⟨0,qs _,rfl,qj _ _,fun k _ h=>absurd h (yl _)⟩
 case round=>
  obtain ⟨i,hi,rfl,HB,I⟩:=hrel;by_cases hlt:i < l.length
  ·have li:(i:Int) < (l.length:Int):=by omega
   obtain ⟨c0,c1,c2,c3,c4,c5⟩:=(xk HO.out HB.out).six hlt;have hI:∀ P,p l[i]=P→Hid (Cs 261 #[.agg #[I6 l[i].kd,U3 l[i].cl,U3 l[i].ck,U3 l[i].st,U6 l[i].rf,I3 l[i].ch],(pt bt 0)] wr fun e w'=>e=.returned (.bool P)∧Bel wr w'):=fun P e=>by subst e;exact HP.out _ (qn hlt) wr (But.below HB.out)
   cases he:p l[i] with
   | false=>
    have HI:=hI false he;have HE:=km he;clear hI he;go_wp2_with (go_at_call 261;refine HI.out.mono ?_;rintro e w1 ⟨rfl,hb1⟩);go_roundw
    case rel=>exact ⟨i+1,hlt,by go_num,HB.out.trans (hb1.mono HB.out.size),fun k hk hk'=>by
     rcases zr k i with q | q
     ·exact I.out k hk q
     ·obtain rfl:k=i:=by omega
      exact HE.out⟩
    case measure=>simp [intOf];omega
   | true=>
    have HI:=hI true he;have HE:=km he;clear hI he;go_wp2_with (go_at_call 261;refine HI.out.mono ?_;rintro e w1 ⟨rfl,hb1⟩);go_ret;exact ⟨⟨i,rfl,Or.inl ⟨i,rfl,hlt,HE.out,fun j hj=>I.out j (by omega) hj⟩⟩,HB.out.trans (hb1.mono HB.out.size)⟩
  ·have li:¬ (i:Int) < (l.length:Int):=by omega
   go_wp2_with fail;go_ret;exact ⟨⟨-1,rfl,Or.inr ⟨rfl,fun x hx=>by obtain ⟨k,hk,rfl⟩:=qw.1 hx;exact I.out k hk (by omega)⟩⟩,HB.out⟩
def zops (k:Nat):List Value:=opCs (List.replicate k o0)
theorem zops_cells (k:Nat):(Builtin.zeroCells (Value.agg oZ).cells k).toList=zops k:=by
 have e:(Value.agg oZ).cells=oZ:=by kernel_rfl
 rw [e];unfold Builtin.zeroCells zops;have hz:(List.replicate k o0).length=k:=yc;refine List.ext_getElem? fun q=>?_;by_cases hq:q < k*6
 ·have h1:=opCs_get (List.replicate k o0) (i:=q / 6) (j:=q % 6) (by rw [hz];omega) (by omega);rw [show q / 6*6+q % 6=q by omega] at h1;rw [h1,List.getElem_replicate];have h2:(((Array.range (k*6)).map fun i=>oZ[i % 6]!).toList)[q]?=some (oZ[q % 6]!):=by simp [hq]
  refine h2.trans ?_;congr 1;have:q % 6 < 6:=by omega
  match q % 6,this with
  | 0,_=>rfl
  | 1,_=>rfl
  | 2,_=>rfl
  | 3,_=>rfl
  | 4,_=>rfl
  | 5,_=>rfl
 ·rw [zj (by simp;omega),zj (by rw [xu,hz];omega)]
theorem run_clear_ops (w:World) (ty:TypeId) (g k m c:Nat) (hc:∀ j,j < m*6→(w.cell? ⟨g,k+j,none⟩).isSome=true) (hf:∀ j,j < m*6→w.frozen? ⟨g,k+j,none⟩=false) :
  (Builtin.clear_ #[32] ty #[.slice (some (Ad g k)) m c]).run Tryz.prog w=.ok (.tuple #[]) (w.setCells g k (zops m)):=by
 have hl:(zops m).length=m*6:=by unfold zops;rw [xu,yc]
 have hst:=run_storeCells_cells (P:=Tryz.prog) g k (zops m) 0 w (by rw [hl];simpa using hc) (by rw [hl];simpa using hf) (opCs_one _);simp only [y8] at hst
 cases m with
 | zero=>simp [Builtin.clear_,run_underlying Tryz.underlying32,zops,opCs];rfl
 | succ m=>simp [Builtin.clear_,run_underlying Tryz.underlying32,Tryz.zeroValue43,zops_cells,hst]
structure DfO (w W:World) (g cap B:Nat) (p:Opn→Bool) (l M:List Opn) (ii jj:Nat):Prop where
 own:OwnO W B (.slice (some (Ad g 0)) l.length cap) M
 len:M.length=l.length
 pre:M.take ii=(l.take jj).filter fun s=>!p s
 post:M.drop jj=l.drop jj
 le:ii < jj∧jj≤l.length
 but:But (fun x=>some g=some x) w W
theorem DfO.below {w W:World} {p:Opn→Bool} (h:DfO w W g cap B p l M ii jj) (hb:Bel W W'):DfO w W' g cap B p l M ii jj:=
 ⟨xk h.own hb,h.len,h.pre,h.post,h.le,h.but.trans (But.below hb)⟩
theorem filt_stepO {p:Opn→Bool} (h:jj < l.length):(l.take (jj+1)).filter (fun s=>!p s)=(l.take jj).filter (fun s=>!p s)++if p l[jj] then [] else [l[jj]]:=by
 rw [zk h,zt];congr 1;cases he:p l[jj] <;> simp [he]
theorem DfO.skip {w W:World} {p:Opn→Bool} (h:DfO w W g cap B p l M ii jj) (hj:jj < l.length) (he:p l[jj]=true):DfO w W g cap B p l M ii (jj+1):=
 ⟨h.own,h.len,by rw [filt_stepO hj,he,h.pre];simp,by rw [← yt,← yt,h.post],⟨by have:=h.le;omega,hj⟩,h.but⟩
theorem DfO.at' {w W:World} {p:Opn→Bool} (h:DfO w W g cap B p l M ii jj) (hj:jj < l.length):∃ h':jj < M.length,M[jj]=l[jj]:=by
 have h':jj < M.length:=by rw [h.len];exact hj
 refine ⟨h',?_⟩;have:=congrArg (fun x=>x[0]?) h.post;simp only [ju,y8] at this;rw [qk h',qk hj] at this;exact qq this
theorem opCs_set:∀ (l:List Opn) {i:Nat} (_:i < l.length) (s:Opn),opCs (l.set i s)=(opCs l).take (i*6)++[I6 s.kd,U3 s.cl,U3 s.ck,U3 s.st,U6 s.rf,I3 s.ch]++(opCs l).drop (i*6+6)
 | [],i,hi,_=>by cases hi
 | x::l,0,_,s=>rfl
 | x::l,i+1,hi,s=>by
  have:=opCs_set l (i:=i) (by simpa using hi) s;rw [qg,opCs,this,show (i+1)*6=i*6+6 by omega];simp [opCs]
theorem DfO.put {w W:World} {p:Opn→Bool} (h:DfO w W g cap B p l M ii jj) (hj:jj < l.length) (he:p l[jj]=false):DfO w ((((((W.setCell ⟨g,ii*6,none⟩ (I6 l[jj].kd)).setCell ⟨g,ii*6+1,none⟩ (U3 l[jj].cl)).setCell ⟨g,ii*6+2,none⟩ (U3 l[jj].ck)).setCell ⟨g,ii*6+3,none⟩ (U3 l[jj].st)).setCell ⟨g,ii*6+4,none⟩ (U6 l[jj].rf)).setCell ⟨g,ii*6+5,none⟩ (I3 l[jj].ch)) g cap B p l (M.set ii l[jj]) (ii+1) (jj+1):=by
 have hle:=h.le;have hM:=h.len;refine ⟨?_,by rw [ym];exact hM,?_,?_,⟨by omega,hj⟩,?_⟩
 ·have ho:=h.own;unfold OwnO at ho ⊢;rw [ym];rw [hM] at ho ⊢;have:=ve [I6 l[jj].kd,U3 l[jj].cl,U3 l[jj].ck,U3 l[jj].st,U6 l[jj].rf,I3 l[jj].ch] (ii*6) W _ ho (by rw [xu,hM];simp;omega);rw [opCs_set M (by omega)];exact this
 ·rw [filt_stepO hj,he,← h.pre];have:ii < (M.set ii l[jj]).length:=by rw [ym];omega
  rw [zk this,List.take_set_of_le (qb _),List.getElem_set_self];rfl
 ·rw [List.drop_set_of_lt (by omega),← yt,← yt,h.post]
 ·exact (((((h.but.setCell (Or.inl rfl) _).setCell (Or.inl rfl) _).setCell (Or.inl rfl) _).setCell (Or.inl rfl) _).setCell (Or.inl rfl) _).setCell (Or.inl rfl) _
theorem DfO.fin {w W:World} {p:Opn→Bool} (h:DfO w W g cap B p l M ii l.length):OwnO (W.setCells g (ii*6) (zops (l.length-ii))) B (.slice (some (Ad g 0)) ii cap) (l.filter fun s=>!p s)∧But (fun x=>some g=some x) w (W.setCells g (ii*6) (zops (l.length-ii))):=by
 have hle:=h.le;have hM:=h.len;have hz:(zops (l.length-ii)).length=(l.length-ii)*6:=by unfold zops;rw [xu,yc]
 have ho:=h.own;unfold OwnO at ho;rw [hM] at ho;have h1:=ve (zops (l.length-ii)) (ii*6) W _ ho (by rw [xu,hM,hz];omega);have h2:=own_shorter h1 (yz hle.1);have e:(l.filter fun s=>!p s)=M.take ii:=by have:=h.pre;rw [ja (qb _)] at this;exact this.symm
 refine ⟨?_,vy (X:=fun x=>some g=some x) rfl _ _ _ h.but⟩;have hl2:(M.take ii).length=ii:=by rw [qm];omega
 rw [e];unfold OwnO;rw [hl2,← opCs_take];have hl:((opCs M).take (ii*6)).length=ii*6:=by rw [qm,xu,hM];omega
 rwa [qr,j8 hl] at h2
theorem DfO.start {w w1:World} {p:Opn→Bool} (hO:OwnO w B (.slice (some (Ad g 0)) l.length cap) l) (hb:Bel w w1) (hi:i < l.length) (he:p l[i]=true) (hb4:∀ j (hj:j < i),p l[j]=false):DfO w w1 g cap B p l l i (i+1):=by
 refine ⟨xk hO hb,rfl,?_,rfl,⟨by omega,hi⟩,But.below hb⟩;rw [filt_stepO hi,he];simp only [if_true,jd];refine (je.2 fun x hx=>?_).symm;obtain ⟨j,hj,rfl⟩:=qw.1 hx;rw [qm] at hj;rw [jq,hb4 j (by omega)];rfl
theorem delFuncO_any (g cap B bt:Nat) (p:Opn→Bool) (l:List Opn) (w:World) (hP:PredO w g bt p l) (hO:OwnO w B (.slice (some (Ad g 0)) l.length cap) l) (hn:l.length≤1000000) :
  Cs 260 #[.slice (some (Ad g 0)) l.length cap,.func (.func 261) #[] #[(pt bt 0)]] w fun e w'=>∃ n,e=.returned (.slice (some (Ad g 0)) n cap)∧OwnO w' B (.slice (some (Ad g 0)) n cap) (l.filter fun s=>!p s)∧But (fun x=>some g=some x) w w':=by
 have HO:=km hO;have HP:=km hP;have hcap:=hO.len0.2;clear hO hP;go_enter Tryz.func260,Tryz.ntmps260;go_upto_if 12 with (go_at_call 170;refine (ixfD_any g cap B bt p l w HO.out HP.out hn).mono ?_;rintro e w1 ⟨⟨x,rfl,hx⟩,hb1⟩;have HI:=km (qd hx hb1);clear hx hb1)
 rcases HI.out.1 with ⟨i,rfl,hi,he,hb4⟩ | ⟨rfl,hall⟩
 ·have H0:=km (DfO.start HO.out HI.out.2 hi he hb4);have n1:¬ (i:Int)=-1:=by omega
  have e1:IntKind.i64.wrap ((i:Int)+1)=((i+1:Nat):Int):=by
   unfold IntKind.wrap;simp [IntKind.bits,IntKind.signed];omega
  clear HI he hb4;go_wp2_with fail;clear n1 e1;generalize ((i:Int)==-1)=d12;go_loopw [5,6] (fun iv jv wr=>∃ (ii jj:Nat) (M:List Opn),jj≤l.length∧ii < jj∧iv=I6 ii∧jv=I6 jj∧Hid (DfO w wr g cap B p l M ii jj)) (fun _ jv _=>l.length-(intOf jv).toNat)
  case atStart=>exact ⟨i,i+1,l,hi,Nat.lt_succ_self _,rfl,rfl,H0⟩
  case round=>
   obtain ⟨ii,jj,M,hjl,hij,rfl,rfl,HD⟩:=hrel;clear H0;by_cases hlt:jj < l.length
   ·have lj:(jj:Int) < (l.length:Int):=by omega
    have lii:(ii:Int) < (l.length:Int):=by omega
    obtain ⟨hm,em⟩:=HD.out.at' hlt;obtain ⟨c0,c1,c2,c3,c4,c5⟩:=HD.out.own.six hm;rw [em] at c0 c1 c2 c3 c4 c5;clear em hm;have hI:∀ P,p l[jj]=P→Hid (Cs 261 #[.agg #[I6 l[jj].kd,U3 l[jj].cl,U3 l[jj].ck,U3 l[jj].st,U6 l[jj].rf,I3 l[jj].ch],(pt bt 0)] (wr.alloc (.cells #[I6 l[jj].kd,U3 l[jj].cl,U3 l[jj].ck,U3 l[jj].st,U6 l[jj].rf,I3 l[jj].ch] 43)) fun e w'=>e=.returned (.bool P)∧Below (wr.alloc (.cells #[I6 l[jj].kd,U3 l[jj].cl,U3 l[jj].ck,U3 l[jj].st,U6 l[jj].rf,I3 l[jj].ch] 43)).heap.size (wr.alloc (.cells #[I6 l[jj].kd,U3 l[jj].cl,U3 l[jj].ck,U3 l[jj].st,U6 l[jj].rf,I3 l[jj].ch] 43)) w'):=fun P e=>by subst e;exact HP.out _ (qn hlt) _ (HD.out.but.trans (But.below (kq _ _)))
    have HD1:=km (HD.out.below (kq wr (.cells #[.int .i64 l[jj].kd,.int .u32 l[jj].cl,.int .u32 l[jj].ck,.int .u32 l[jj].st,.int .u64 l[jj].rf,.int .i32 l[jj].ch] 43)));have HB:Hid (RowIs (wr.alloc (.cells #[I6 l[jj].kd,U3 l[jj].cl,U3 l[jj].ck,U3 l[jj].st,U6 l[jj].rf,I3 l[jj].ch] 43)) wr.heap.size 43 6 (opV l[jj])):=RowIs.last rfl rfl
    cases he:p l[jj] with
    | true=>
     have HI:=hI true he;have HE:=km he;clear hI he;go_wp2_with (go_at_call 261;refine HI.out.mono ?_;rintro e w2 ⟨rfl,hb2⟩;have H2:=km (HD1.out.below hb2);clear hb2);go_roundw
     case rel=>exact ⟨ii,jj+1,M,hlt,by omega,rfl,by go_num,km (H2.out.skip hlt HE.out)⟩
     case measure=>simp [intOf];omega
    | false=>
     have HI:=hI false he;have HE:=km he;clear hI he;go_wp2_with (go_at_call 261;refine HI.out.mono ?_;rintro e w2 ⟨rfl,hb2⟩;have H2:=km (HD1.out.below hb2);have R2:=HB.out.below hb2 HB.out.lt;have b0:=R2.cell (j:=0) (by omega);have b1:=R2.cell (j:=1) (by omega);have b2:=R2.cell (j:=2) (by omega);have b3:=R2.cell (j:=3) (by omega);have b4:=R2.cell (j:=4) (by omega);have b5:=R2.cell (j:=5) (by omega);simp only [opV] at b0 b1 b2 b3 b4 b5;have hii:ii < M.length:=(by rw [H2.out.len];omega);obtain ⟨d0,d1,d2,d3,d4,d5⟩:=H2.out.own.six hii;have hfr:∀ q,w2.frozen? (Ad g q)=false:=fun q=>zq (show w2.ownsRow B 43 6 (.slice (some (Ad g 0)) l.length cap) l.length (opCs M) by have:=H2.out.own;unfold OwnO at this;rwa [H2.out.len] at this) q;have f0:=hfr (ii*6);have f1:=hfr (ii*6+1);have f2:=hfr (ii*6+2);have f3:=hfr (ii*6+3);have f4:=hfr (ii*6+4);have f5:=hfr (ii*6+5);clear hfr;clear hb2 R2);go_roundw
     case rel=>exact ⟨ii+1,jj+1,_,hlt,by omega,by go_num,by go_num,km (H2.out.put hlt HE.out)⟩
     case measure=>simp [intOf];omega
   ·obtain rfl:jj=l.length:=by omega
    have hic:¬ cap=ii:=by omega
    have iic:ii≤cap:=by omega
    have hcl:∀ ty,(Builtin.clear_ #[32] ty #[.slice (some ⟨g,ii*6,none⟩) (l.length-ii) (cap-ii)]).run Tryz.prog wr=.ok (.tuple #[]) (wr.setCells g (ii*6) (zops (l.length-ii))):=fun ty=>by
     have ho:=HD.out.own;unfold OwnO at ho;rw [HD.out.len] at ho;refine run_clear_ops wr ty g (ii*6) (l.length-ii) _ (fun k hk=>?_) fun k _=>zq ho _;rw [za ho _ (by omega),qk (by rw [ho.1];omega)];rfl
    go_wp2_with fail;go_ret;exact ⟨_,rfl,HD.out.fin⟩
 ·have HA:=km (qd hall HI.out.2);clear HI hall;go_wp2_with fail;go_ret;refine ⟨_,rfl,?_,But.below HA.out.2⟩;rw [je.2 fun x hx=>by rw [HA.out.1 x hx];rfl];exact xk HO.out HA.out.2
theorem delFuncO_nil (fv:Value) (w:World):Cs 260 #[.slice none 0 0,fv] w fun e w'=>e=.returned (.slice none 0 0)∧w'=w:=by
 have HI:Hid (∀ W,Cs 170 #[.slice none 0 0,fv] W fun e w'=>e=.returned (I6 (-1))∧w'=W):=km fun W=>by
  go_enter Tryz.func170,Tryz.ntmps170;go_wp2_with fail;go_loopw [8] (fun iv wr=>iv=I6 0∧wr=W) (fun _ _=>0)
  case atStart=>exact ⟨rfl,rfl⟩
  case round=>
   obtain ⟨rfl,rfl⟩:=hrel;go_wp2_with fail;go_ret;exact ⟨rfl,rfl⟩
 go_enter Tryz.func260,Tryz.ntmps260;go_wp2_with (go_at_call 170;refine (HI.out _).mono ?_;rintro e w1 ⟨rfl,hw1⟩;obtain rfl:=hw1.symm);go_ret;exact ⟨rfl,rfl⟩
theorem delF_any (s:Value) (B bt:Nat) (p:Opn→Bool) (l:List Opn) (w:World) (hO:OwnO w B s l) (hP:∀ g,s.ownBlock=some g→PredO w g bt p l) (hn:l.length≤1000000) :
  Cs 260 #[s,.func (.func 261) #[] #[(pt bt 0)]] w fun e w'=>∃ v',e=.returned v'∧OwnO w' B v' (l.filter fun s=>!p s)∧But (fun x=>s.ownBlock=some x) w w':=by
 rcases hO.2 with ⟨rfl,h0⟩ | ⟨g,cap,cur,rfl,-⟩
 ·obtain rfl:=zy.1 h0;refine (delFuncO_nil _ w).mono ?_;rintro e w' ⟨rfl,rfl⟩;exact ⟨_,rfl,hO,But.refl _ _⟩
 ·refine (delFuncO_any g cap B bt p l w (hP g rfl) hO hn).mono ?_;rintro e w' ⟨n,rfl,h1,h2⟩;exact ⟨_,rfl,h1,h2⟩
def lackL (l told:List Opn):List Opn:=l.filter fun o=>!hasK told o
theorem OpsIs.but {w:World} {a:Option Addr} {os:List Opn} {X:Nat→Prop} {N:Nat} (h:OpsIs w a os) (hN:w.heap.size≤N) (hb:∀ i,i < w.heap.size→¬ X i→w'.heap[i]?=w.heap[i]?) (hX:∀ g,X g→N≤g):OpsIs w' a os:=by
 rcases h with h | ⟨g,off,e,hO⟩
 ·exact Or.inl h
 ·refine Or.inr ⟨g,off,e,fun i hi j hj=>?_⟩;have q:=hO i hi j hj;have hg:g < w.heap.size:=block_lt_of_cell q;exact (qz (a:=⟨g,off+i*6+j,none⟩) (hb g hg fun k=>by have:=hX g k;omega)).trans q
theorem lacking_any (t:Tr) (v:Value) (a:Option Addr) (cap:Nat) (told:List Opn) (w:World) (hv:IsTr w v t) (hs:t.list.length≤1000000) (hK:∀ x∈t.list,KeyT x) (hO:OpsIs w a told) (hT:∀ x∈told,KeyT x) (hn:told.length≤1000000) :
  Cs 203 #[.agg #[v],.slice a told.length cap] w fun e w'=>(∃ v',e=.returned v'∧OwnO w' w.heap.size v' (lackL t.list told))∧Bel w w':=by
 have B2:Bel w ((w.alloc (.cells #[v] 103)).alloc (.cells #[.slice a told.length cap] 32)):=((qj _ _).alloc (qb _) _).alloc (by simp) _;have HS:=km (sOps_any t v ((w.alloc (.cells #[v] 103)).alloc (.cells #[.slice a told.length cap] 32)) (hv.below B2) hs);have HR:Hid (RowIs ((w.alloc (.cells #[v] 103)).alloc (.cells #[.slice a told.length cap] 32)) (w.heap.size+1) 32 1 (fun _=>.slice a told.length cap)):=km (RowIs.last (by simp) rfl);have HB:=km B2;have HT:=km (qd hK (qd hO (qd hT (qd hn hs))));clear hv B2 hK hO hT hs;go_enter Tryz.func203,Tryz.ntmps203
 go_wp2_with (first
  | (go_at_call 100;refine HS.out.mono ?_;rintro e w3 ⟨⟨s,rfl,ho3⟩,hb3⟩;have H3:=km (qd ho3 hb3);clear ho3 hb3)
  | (go_at_call 260;refine (delF_any s _ (w.heap.size+1) (hasK told) t.list w3 H3.out.1 (fun g hg x hx W hW=>lack1_any x (HT.out.1 x hx) (w.heap.size+1) a cap told W ((HR.out.below H3.out.2 HR.out.lt).but hW (fun q=>by have q:=qq q;have:=(qf H3.out.1 g hg).1;have:=HR.out.lt;omega)) (HT.out.2.1.but (N:=w.heap.size) (X:=fun x=>some g=some x) (qb _) (fun i hi hx=>(hW.block i (ql hi (qi HB.out.size H3.out.2.size)) hx).trans ((H3.out.2.block i (ql hi HB.out.size)).trans (HB.out.block i hi))) (fun x q=>by have q:=qq q;have:=(qf H3.out.1 g hg).1;have:=HB.out.size;omega)) HT.out.2.2.1 hn) HT.out.2.2.2.2).mono ?_;rintro e w4 ⟨v4,rfl,ho4,hb4⟩;have H4:=km (qd ho4 hb4);clear ho4 hb4))
 go_ret;have s2:=HB.out.size;refine ⟨⟨_,rfl,⟨H4.out.1.1,H4.out.1.2.via id fun ⟨g,cap,cur,e,l,k⟩=>⟨g,cap,cur,e,qi s2 l,k⟩⟩⟩,?_⟩;have b3:Bel w w3:=HB.out.trans (H3.out.2.mono s2);exact ⟨H4.out.2.os.trans b3.os,H4.out.2.tape.trans b3.tape,H4.out.2.output.trans b3.output,qi b3.size H4.out.2.size,fun i hi=>(H4.out.2.block i (ql hi b3.size) fun q=>by have:=(qf H3.out.1 i q).1;omega).trans (b3.block i hi)⟩
def SentIs (w:World) (B:Nat) (v:Value) (L:List (List Int)):Prop:=∃ vs:List Value,vs.length=L.length∧w.ownsRow B 59 1 v L.length vs∧∀ i (h:i < L.length) (h':i < vs.length),OwnB w B vs[i] L[i]
theorem Qj (w:World) (B:Nat):SentIs w B (.slice none 0 0) []:=⟨[],rfl,⟨rfl,Or.inl ⟨rfl,rfl⟩⟩,fun _ h=>(by cases h)⟩
theorem SentIs.keep {w:World} {L:List (List Int)} (h:SentIs w B v L) (hb:Bel w w'):SentIs w' B v L:=by
 obtain ⟨vs,h1,h2,h3⟩:=h;exact ⟨vs,h1,kp h2 fun g hg=>hb.block g (qf h2 g hg).2,fun i hi hi'=>(h3 i hi hi').keep hb⟩
theorem SentIs.form {w:World} {L:List (List Int)} (h:SentIs w B v L):∃ a c,v=.slice a L.length c:=by
 obtain ⟨vs,-,h2,-⟩:=h;rcases h2.2 with ⟨e,h0⟩ | ⟨g,cap,cur,e,-⟩
 ·exact ⟨none,0,by rw [e,h0]⟩
 ·exact ⟨_,_,e⟩
theorem infoBs:(Tryz.prog.info? 59).map (fun i=>(i.zero,i.size,i.bytes))=some (some (.slice none 0 0),1,24):=by kernel_rfl
theorem bs_apart {w:World} {xs ys:List Value} (h:w.ownsRow B 59 1 v n xs) (k:w.ownsRow C 5 1 x m ys) (hg:v.ownBlock=some g):x.ownBlock≠some g:=by
 intro hx;rcases h.2 with ⟨q,-⟩ | ⟨g1,_,_,q,-,q2,-⟩
 ·rw [q] at hg;cases hg
 ·rcases k.2 with ⟨r,-⟩ | ⟨g2,_,_,r,-,r2,-⟩
  ·rw [r] at hx;cases hx
  ·rw [q] at hg;rw [r] at hx;cases hg;cases hx;rw [q2] at r2;simp only [jx,Obj.cells.injEq] at r2;exact absurd r2.2.1 (by decide)
theorem SentIs.snoc {w:World} {v':Value} {L:List (List Int)} {l:List Int} {vs:List Value} (h1:vs.length=L.length) (h2:w.ownsRow B 59 1 v L.length vs) (h3:∀ i (h:i < L.length) (h':i < vs.length),OwnB w B vs[i] L[i]) (hx:OwnB w B x l) (ho:w'.ownsRow B 59 1 v' (L.length+1) (vs++[x])) (hg:w.grownBy w' v.ownBlock):SentIs w' B v' (L++[l]):=by
 have keep:∀ {y:Value} {k:List Int},OwnB w B y k→OwnB w' B y k:=fun {y k} hy=>kp hy fun g e=>hg.block g (qf hy g e).2 fun q=>bs_apart h2 hy q.symm e;refine ⟨vs++[x],by simp [h1],by rw [qe,zp];exact ho,fun i hi hi'=>?_⟩;rw [qe,zp] at hi;rcases zr i L.length with q | q
 ·rw [jz (by omega),jz q];exact keep (h3 i q (by omega))
 ·have e:i=L.length:=by omega
  subst e;rw [yu (by omega),yu (by omega)];simp only [h1,Nat.sub_self,List.getElem_singleton];exact keep hx
def SpOk (s:Sp):Prop:=0≤s.lo∧s.lo < s.hi∧s.hi≤1099511627776
def askF (ss:Int) (t:Tr) (s:Sp):Frm:=⟨1,ss,s.lo,s.hi,dig (strOfNums (t.rng s.lo s.hi).txt) 0,dig (strOfNums (t.rng s.lo s.hi).txt) 1,dig (strOfNums (t.rng s.lo s.hi).txt) 2,[]⟩
theorem ask_ok {t:Tr} {s:Sp} (hs:1≤ss∧ss≤1073741823) (h:SpOk s):okFrm (askF ss t s)=true∧FrmT (askF ss t s):=by
 have hb:=chk_byt (strOfNums (t.rng s.lo s.hi).txt);constructor
 ·unfold okFrm askF nOk opsOk;obtain ⟨h1,h2,h3⟩:=h;simp [hs.1,hs.2,h2,h3]
 ·obtain ⟨h1,h2,h3⟩:=h;exact ⟨by unfold askF;dsimp;omega,by unfold askF;dsimp;omega,by unfold askF;dsimp;omega,by unfold askF;dsimp;omega,hb,fun o ho=>by cases ho⟩
theorem SentIs.base {w:World} {L:List (List Int)} (h:SentIs w B v L) (hc:C≤B):SentIs w C v L:=by
 obtain ⟨vs,h1,h2,h3⟩:=h;exact ⟨vs,h1,⟨h2.1,h2.2.via id fun ⟨g,cap,cur,e,l,k⟩=>⟨g,cap,cur,e,qi hc l,k⟩⟩,fun i hi hi'=>OwnB.base (h3 i hi hi') hc⟩
theorem OwnB.shape {w:World} {l:List Int} (h:OwnB w B v l):∃ a n c,v=.slice a n c:=by
 rcases h.2 with ⟨e,h0⟩ | ⟨g,cap,cur,e,-⟩
 ·exact ⟨_,_,_,e⟩
 ·exact ⟨_,_,_,e⟩
structure AskS (w w1:World) (b:Nat) (st cl ss:Int) (top vW v':Value) (t:Tr) (vf:Value) (F:List Sp):Prop where
 row:RowIs w1 b 118 7 (rep7 st cl top vW ss v')
 tree:IsTr w1 top t
 typ:t.T
 wf:∀ lo hi,(t.rng lo hi).W
 env:Env w1
 first:OwnS w1 w.heap.size vf F
 base:w.heap.size≤w1.heap.size
theorem tick_any (b:Nat) (st cl ss:Int) (top vW v:Value) (t:Tr) (l:List Sp) (B:Nat) (w:World) (hr:RowIs w b 118 7 (rep7 st cl top vW ss v)) (hO:OwnS w B v l) (hl:l.length≤1000000) (hok:∀ s∈l,SpOk s) (hss:l=[]∨1≤ss∧ss≤1073741823) (hI:IsTr w top t) (ht:t.T) (hE:Env w) (hW:∀ lo hi,(t.rng lo hi).W) (hg:15≤w.heap.size) (hbg:15≤b) (hvg:∀ g,v.ownBlock=some g→15≤g) :
  Cs 64 #[(pt b 5),(pt b 2)] w fun e w'=>∃ vs,e=.returned vs∧SentIs w' w.heap.size vs ((l.take 5).map fun s=>packL (askF ss t s))∧WorkP w w' b st cl ss top vW v B (l.drop 5++l.take 5):=by
 obtain ⟨ib,hib,hz0,hz1,hz2⟩:=info_parts infoBs;obtain ⟨F,hF⟩:∃ F,F=l.take 5:=⟨_,rfl⟩;have HC:=km (turn_any b st cl ss top vW v l 5 B w hr hO hl (by omega))
 have HA:Hid (∀ w1 vf v',TurnP w w1 b st cl ss top vW v B l 5 vf v'→AskS w w1 b st cl ss top vW v' t vf F):=km fun w1 vf v' hP=>by
  have h1:=hP.first
  rw [← hF] at h1;refine ⟨hP.row,isTr_gen2 hP.but (fun g e f k=>?_) hI,ht,hW,hE.but hP.but (fun g e=>?_) hg,h1,hP.but.size⟩
  ·rcases e with e | e
   ·subst e;exact absurd (RowIs.type_eq hr k) (by decide)
   ·exact Qy hO (by decide) e f k
  ·rcases e with e | e
   ·omega
   ·exact hvg g e
 have HOk:=km (qd hok hss);have hF5:F.length≤5:=by rw [hF,qm];omega
 have HFl:=km hF;clear hF hr hO hok hss hI hE hW hg hbg hvg;go_enter Tryz.func64,Tryz.ntmps64;go_wp2_with (go_at_call 112;refine HC.out.mono ?_;rintro e w1 ⟨vf,v',rfl,hP⟩;have hT:=HA.out _ _ _ hP;obtain ⟨af,cf,rfl⟩:=hT.first.form;have HT:=km hT;have HP:=km hP;clear hP hT);clear HC HA;go_loopw [5,13] (fun sv iv wr=>∃ i:Nat,i≤F.length∧iv=I6 i∧Hid (SentIs wr w1.heap.size sv ((F.take i).map fun s=>packL (askF ss t s)))∧Hid (Bel w1 wr)) (fun _ iv _=>F.length-(intOf iv).toNat)
 case atStart=>exact ⟨0,qs _,rfl,km (Qj _ _),km (qj _ _)⟩
 case round=>
  obtain ⟨i,hi,rfl,HSt,HB⟩:=hrel;by_cases hlt:i < F.length
  ·have li:(i:Int) < (F.length:Int):=by omega
   obtain ⟨gf,rfl⟩:=HT.out.first.ptr (by omega)
   obtain ⟨k0,k1⟩:=(HT.out.first.keep HB.out).cells hlt;have HF:Hid (∀ s∈F,SpOk s):=km fun s hs=>HOk.out.1 s (jb (HFl.out▸hs));have HSs:Hid (1≤ss∧ss≤1073741823):=km (HOk.out.2.resolve_left fun e=>by have:=HFl.out;rw [e,List.take_nil] at this;rw [this] at hlt;cases hlt);have HX:Hid (RowIs (wr.alloc (.cells #[U6 F[i].lo,U6 F[i].hi] 186)) wr.heap.size 186 2 (fun j=>if j=0 then U6 F[i].lo else U6 F[i].hi)):=km (RowIs.last rfl rfl);have HLt:Hid (∀ g,u5.ownBlock=some g→w1.heap.size≤g∧g < wr.heap.size):=km fun g hg=>by obtain ⟨vs,-,h2,-⟩:=HSt.out;exact qf h2 g hg
   have HBr:Hid (Bel wr (wr.alloc (.cells #[U6 F[i].lo,U6 F[i].hi] 186))):=km (kq wr _);have HB:=km (HB.out.trans ((kq wr (.cells #[.int .u64 F[i].lo,.int .u64 F[i].hi] 186)).mono HB.out.size));go_wp2_with fail;refine wp_region_held_drew (S:=fun W=>RowIs W b 118 7 (rep7 st cl top vW ss v')∧RowIs W wr.heap.size 186 2 (fun j=>if j=0 then U6 F[i].lo else U6 F[i].hi)) (by kernel_rfl) (⟨(HT.out.row.below HB.out HT.out.row.lt).drew,HX.out.drew⟩) (fun hHeld=>?_);have HB:=km (HB.out.trans ((qj _ _).drew.mono HB.out.size));have HBr:=km (HBr.out.trans ((qj _ _).drew.mono HBr.out.size));generalize World.drew _=wD at hHeld HB HBr ⊢;refine ks 0 17 ?_;refine ks 1 18 ?_;refine ks 2 19 ?_;refine ks 3 20 ?_;refine tk 4 21 rfl (Or.inl ⟨by rfl,fun W hS=>by have hq:W.cell? (Ad b 5)=some (U3 ss):=hS.1.cell (j:=5) (by omega);go_simp;rfl⟩) hHeld ?_;simp only [Act.put,Qc,Qb,Qa];refine ks 5 22 ?_;refine tk 6 23 rfl (Or.inl ⟨by rfl,fun W hS=>by have hq:W.cell? (Ad wr.heap.size 0)=some (U6 F[i].lo):=hS.2.cell (j:=0) (by omega);go_simp;rfl⟩) hHeld ?_;simp only [Act.put,Qc,Qb,Qa];refine ks 7 24 ?_;refine tk 8 25 rfl (Or.inl ⟨by rfl,fun W hS=>by have hq:W.cell? (Ad wr.heap.size 1)=some (U6 F[i].hi):=hS.2.cell (j:=1) (by omega);go_simp;rfl⟩) hHeld ?_;simp only [Act.put,Qc,Qb,Qa];refine ks 9 26 ?_;refine ks 10 27 ?_;refine tk 11 28 rfl (Or.inl ⟨by rfl,fun W hS=>by have hq:W.cell? (Ad wr.heap.size 0)=some (U6 F[i].lo):=hS.2.cell (j:=0) (by omega);go_simp;rfl⟩) hHeld ?_;simp only [Act.put,Qc,Qb,Qa];refine ks 12 29 ?_;refine tk 13 30 rfl (Or.inl ⟨by rfl,fun W hS=>by have hq:W.cell? (Ad wr.heap.size 1)=some (U6 F[i].hi):=hS.2.cell (j:=1) (by omega);go_simp;rfl⟩) hHeld ?_;simp only [Act.put,Qc,Qb,Qa];refine rd 14 (some 31) rfl (fun K hK=>?_);go_simp;refine (bRange_any F[i].lo F[i].hi b st cl ss top vW v' t _ hHeld.1 (HT.out.tree.below HB.out) HT.out.typ).mono ?_;rintro e w5 ⟨⟨p,rfl,hp⟩,hb⟩;obtain ⟨pa,rfl⟩:=hp.ptr;have HB:=km (HB.out.trans (hb.mono HB.out.size));have HBr:=km (HBr.out.trans (hb.mono HBr.out.size));have HPt:=km hp;refine hK.out _ _ ⟨hHeld.1.below hb hHeld.1.lt,hHeld.2.below hb hHeld.2.lt⟩ (fun hHeld=>?_);clear hK K hb hp;refine rd 15 (some 32) rfl (fun K hK=>?_);go_simp;refine (of_gen _ _ _ HPt.out (HT.out.env.below HB.out) fun W2 hW2=>text_any _ _ W2 (HPt.out.below hW2) (HT.out.wf F[i].lo F[i].hi) ((HT.out.env.below HB.out).below hW2)).mono ?_;rintro e w6 ⟨rfl,hb⟩;have HB:=km (HB.out.trans (hb.mono HB.out.size));have HBr:=km (HBr.out.trans (hb.mono HBr.out.size));refine hK.out _ _ ⟨hHeld.1.below hb hHeld.1.lt,hHeld.2.below hb hHeld.2.lt⟩ (fun hHeld=>?_);clear hK K hb;refine ks 16 33 ?_;refine rd 17 (some 34) rfl (fun K hK=>?_);go_simp;refine (wbytes_good (askF ss t F[i]) none 0 (ask_ok HSs.out (HF.out F[i] (qn hlt))).2 _ (HT.out.env.below HB.out) (Or.inl rfl) (ask_ok HSs.out (HF.out F[i] (qn hlt))).1).mono ?_;rintro e w8 ⟨⟨x8,rfl,hx8⟩,hb⟩;obtain ⟨a8,n8,c8,rfl⟩:=hx8.shape
   have HX8:=km (OwnB.base hx8 HB.out.size);have HB:=km (HB.out.trans (hb.mono HB.out.size));have HBr:=km (HBr.out.trans (hb.mono HBr.out.size));refine hK.out _ _ ⟨hHeld.1.below hb hHeld.1.lt,hHeld.2.below hb hHeld.2.lt⟩ (fun hHeld=>?_);clear hK K hb hx8;refine rd 18 (some 35) rfl (fun K hK=>?_);rw [if_pos (by rfl)];refine wp_buildSlice 66 59 1 _ rfl #[.slice a8 n8 c8] ib _ Tryz.underlying66 hib hz0 (by rw [hz1];decide) (by rw [hz1];decide) (by rw [hz1];kernel_rfl) ?_;simp only [Act.put,Qc,Qb,Qa];have hb:=kq w8 (.cells #[.slice a8 n8 c8] 59);have HB:=km (HB.out.trans (hb.mono HB.out.size));have HBr:=km (HBr.out.trans (hb.mono HBr.out.size));refine hK.out _ _ ⟨hHeld.1.below hb hHeld.1.lt,hHeld.2.below hb hHeld.2.lt⟩ (fun hHeld=>?_);clear hK K hb;refine rd 19 (some 36) rfl (fun K hK=>?_);rw [if_pos (by rfl)];obtain ⟨vs5,q1,q2,q3⟩:=HSt.out.keep HBr.out;have hLn:((F.take i).map fun s=>packL (askF ss t s)).length≤5:=by rw [ze,qm];omega
   obtain ⟨v9,w9,hr9,ho9,hg9,-,hat9⟩:=run_append_own_at (P:=Tryz.prog) (w8.alloc (.cells #[.slice a8 n8 c8] 59)) w1.heap.size 66 66 59 ib (.slice none 0 0) 1 24 Tryz.underlying66 hib hz0 hz1 hz2 rfl (by decide) u5 _ vs5 q2 (Ad w8.heap.size 0) 1 1 [.slice a8 n8 c8] rfl (cell_one_new _ _ _) (by simp [Value.oneCell']) (by unfold maxLen;omega) (by omega) HB.out.size;have hb9:Below w1.heap.size (w8.alloc (.cells #[.slice a8 n8 c8] 59)) w9:=⟨hg9.os,hg9.tape,hg9.output,hg9.size,fun x hx=>hg9.block x (ql hx HB.out.size) fun e=>by have:=(HLt.out x e.symm).1;omega⟩;have HS9:=km (SentIs.snoc q1 q2 q3 (HX8.out.alloc _) ho9 hg9);have HB:=km (HB.out.trans hb9);refine Lib.wp_append_run _ (.tmp 17) (.tmp 35) 66 66 rfl _ _ rfl rfl v9 w9 hr9 ?_;have bu9:But (fun x=>u5.ownBlock=some x) (w8.alloc (.cells #[.slice a8 n8 c8] 59)) w9:=⟨hg9.size,hg9.os,hg9.tape,hg9.output,fun i hi hx=>hg9.block i hi fun e=>hx e.symm⟩;refine hK.out _ _ ⟨hHeld.1.but bu9 (fun q=>by have:=(HLt.out b q).1;have:=HT.out.row.lt;omega),hHeld.2.but bu9 (fun q=>by have:=(HLt.out _ q).2;omega)⟩ (fun hHeld=>?_);clear hK K q1 q2 q3 hLn hr9 ho9 hg9 hat9 hb9 bu9;refine rdg 20 (some 5) ?_;refine xy ?_;clear hHeld;go_wp2_with fail;go_roundw
   case rel=>exact ⟨i+1,hlt,by go_num,km (by rw [zk hlt,yb];exact HS9.out),HB⟩
   case measure=>simp [intOf];omega
  ·have li:¬ (i:Int) < (F.length:Int):=by omega
   go_wp2_with fail;go_ret;have hP:=HP.out;refine ⟨_,rfl,?_,⟨v',hP.own.keep HB.out,hP.row.below HB.out hP.row.lt,hP.at',hP.but.trans (But.below HB.out)⟩⟩;have:=HSt.out.base HT.out.base;rw [ja (by omega),HFl.out,List.map_take] at this;exact this
theorem opT_of (h:OpW o):OpT o:=⟨by have:=h.kd;omega,by have:=h.cl;omega,by have:=h.ck;omega,by have:=h.st;omega,by have:=h.rf;omega,by have:=h.ch;omega⟩
structure TalkIs (w:World) (b:Nat) (st cl ss:Int) (top vW vK:Value) (t:Tr) (ws:List Opn) (l:List Sp):Prop where
 book:BookIs w b st cl ss top vW vK t ws
 ok:BookOk t.list ws
 heap:t.H
 own:OwnS w 15 vK l
 apart:∀ g,vK.ownBlock=some g→vW.ownBlock≠some g
theorem TalkIs.below {w:World} {st:Int} {top:Value} {t:Tr} {l:List Sp} (h:TalkIs w b st cl ss top vW vK t ws l) (hb:Bel w w'):TalkIs w' b st cl ss top vW vK t ws l:=
 ⟨h.book.below hb,h.ok,h.heap,h.own.keep hb,h.apart⟩
def addsN (os ws:List Opn) (l:List Opn):List Opn×List Opn:=l.foldl (fun s o=>(addN s.1 s.2 o).2) (os,ws)
theorem addsN_snoc (os ws l:List Opn) (o:Opn):addsN os ws (l++[o])=(addN (addsN os ws l).1 (addsN os ws l).2 o).2:=by unfold addsN;rw [List.foldl_append];rfl
structure TookP (w w':World) (b:Nat) (st cl ss:Int) (vW vK:Value) (l:List Sp) (os' ws':List Opn) (top' v':Value) (t':Tr):Prop where
 talk:TalkIs w' b st cl ss top' v' vK t' ws' l
 list:t'.list=os'
 at':v'.ownBlock=vW.ownBlock∨∃ g,v'.ownBlock=some g∧w.heap.size≤g
 but:But (fun x=>x=b∨vW.ownBlock=some x) w w'
theorem addT_any {st:Int} {top:Value} {t:Tr} {l:List Sp} {w:World} (h:TalkIs w b st cl ss top vW vK t ws l) (o:Opn) (hT:OpT o) :
  Cs 51 #[(pt b 2),.agg #[I6 o.kd,U3 o.cl,U3 o.ck,U3 o.st,U6 o.rf,I3 o.ch]] w fun e w'=>(∃ n:Int,e=.returned (I6 n))∧∃ top' v' t',TookP w w' b st cl ss vW vK l (addN t.list ws o).2.1 (addN t.list ws o).2.2 top' v' t':=by
 refine (bAdd_any b st cl ss top vW vK t ws o w h.book h.ok.by' hT).mono ?_;rintro e w' ⟨rfl,top',v',B',e1,k⟩;have hl:=addM_list (o:=o) h.ok;have hok:=addN_ok (o:=o) h.ok;rw [← hl.2.1,← hl.2.2] at hok;have hKb:∀ g,vK.ownBlock=some g→g≠b∧g < w.heap.size:=fun g hg=>⟨fun e=>h.own.notRow h.book.row (e▸hg),(qf h.own g hg).2⟩;refine ⟨⟨_,rfl⟩,top',v',(addM t ws o).2.1,⟨⟨by rw [← hl.2.2];exact B',by rw [← hl.2.2];exact hok,addM_H h.heap h.ok,kp h.own fun g hg=>k.block g (hKb g hg).2 (fun q=>q.elim (hKb g hg).1 (h.apart g hg)),fun g hg q=>?_⟩,hl.2.1,e1,k⟩⟩;rcases e1 with q1 | ⟨g',q1,q2⟩
 ·exact h.apart g hg (q1▸q)
 ·rw [q1] at q;cases q;have:=(hKb g hg).2;omega
theorem adds_any (b:Nat) (st cl ss:Int) (top vW vK:Value) (t:Tr) (ws:List Opn) (l:List Sp) (os:List Opn) (s:Value) (B:Nat) (w:World) (h:TalkIs w b st cl ss top vW vK t ws l) (hO:OwnO w B s os) (hT:∀ o∈os,OpT o) (hn:os.length≤1000000) (hap:∀ g,s.ownBlock=some g→g≠b∧vW.ownBlock≠some g) :
  Cs 119 #[(pt b 2),s] w fun e w'=>e=.returned (.tuple #[])∧OwnO w' B s os∧∃ top' v' t',TookP w w' b st cl ss vW vK l (addsN t.list ws os).1 (addsN t.list ws os).2 top' v' t':=by
 obtain ⟨a,c,rfl⟩:=kt hO;have HH:=km (qd h (qd hO (qd hT hap)));clear h hO hT hap;go_enter Tryz.func119,Tryz.ntmps119;go_wp2_with fail;go_loopw [8] (fun iv wr=>∃ i:Nat,i≤os.length∧iv=I6 i∧Hid (OwnO wr B (.slice a os.length c) os∧∃ top' v' t',TookP w wr b st cl ss vW vK l (addsN t.list ws (os.take i)).1 (addsN t.list ws (os.take i)).2 top' v' t')) (fun iv _=>os.length-(intOf iv).toNat)
 case atStart=>exact ⟨0,qs _,rfl,km ⟨HH.out.2.1,_,_,_,⟨HH.out.1,rfl,Or.inl rfl,But.refl _ _⟩⟩⟩
 case round=>
  obtain ⟨i,hi,rfl,HI⟩:=hrel;by_cases hlt:i < os.length
  ·have li:(i:Int) < (os.length:Int):=by omega
   obtain ⟨hO,top',v',t',hP⟩:=HI.out
   obtain ⟨g,rfl⟩:∃ g,a=some (Ad g 0):=by
    rcases hO.2 with ⟨-,q⟩ | ⟨g,cap,cur,e,-⟩
    ·omega
    ·simp only [Value.slice.injEq] at e;exact ⟨g,e.1⟩
   obtain ⟨k0,k1,k2,k3,k4,k5⟩:=hO.six hlt;have HO:=km hO;have HP:=km hP;have hap:=HH.out.2.2.2 g rfl;have hgw:=(qf HH.out.2.1 g rfl).2;have HG:=km (qd hap hgw);clear HI hO hP hap hgw;go_wp2_with (go_at_call 51;refine (addT_any (HP.out.talk.below (kq wr _)) os[i] (HH.out.2.2.1 _ (qn hlt))).mono ?_;rintro e w5 ⟨⟨n,rfl⟩,top5,v5,t5,hP5⟩;have H5:=km hP5;clear hP5);go_roundw
   case rel=>
    refine ⟨i+1,hlt,by go_num,km ⟨?_,top5,v5,t5,?_⟩⟩
    ·have hb:=kq wr (.cells #[.int .i64 os[i].kd,.int .u32 os[i].cl,.int .u32 os[i].ck,.int .u32 os[i].st,.int .u64 os[i].rf,.int .i32 os[i].ch] 43);refine kp (xk HO.out hb) fun x hx=>H5.out.but.block x (qf (xk HO.out hb) x hx).2 ?_;have hx:g=x:=qq hx;subst hx;rintro (q | q)
     ·exact HG.out.1.1 q
     ·rcases HP.out.at' with e | ⟨g',e,hle⟩
      ·exact HG.out.1.2 (e▸q)
      ·rw [e] at q;have:=qq q;have:=HG.out.2;omega
    ·have hb:=kq wr (.cells #[.int .i64 os[i].kd,.int .u32 os[i].cl,.int .u32 os[i].ck,.int .u32 os[i].st,.int .u64 os[i].rf,.int .i32 os[i].ch] 43);have s1:=HP.out.but.size;have s2:=hb.size;rw [zk hlt,addsN_snoc];have h5:=H5.out;rw [HP.out.list] at h5;refine ⟨h5.talk,h5.list,?_,?_⟩
     ·rcases h5.at' with e | ⟨g',e,hle⟩
      ·rcases HP.out.at' with e2 | ⟨g',e2,hle⟩
       ·exact Or.inl (e.trans e2)
       ·exact Or.inr ⟨g',e.trans e2,hle⟩
      ·exact Or.inr ⟨g',e,by omega⟩
     ·refine ⟨qi s1 (qi s2 h5.but.size),h5.but.os.trans (hb.os.trans HP.out.but.os),h5.but.tape.trans (hb.tape.trans HP.out.but.tape),h5.but.output.trans (hb.output.trans HP.out.but.output),fun x hx hn=>?_⟩;refine (h5.but.block x (by omega) fun q=>?_).trans ((hb.block x (by omega)).trans (HP.out.but.block x hx hn));rcases q with q | q
      ·exact hn (Or.inl q)
      ·rcases HP.out.at' with e | ⟨g',e,hle⟩
       ·exact hn (Or.inr (e▸q))
       ·rw [e] at q;have:=qq q;omega
   case measure=>simp [intOf];omega
  ·have li:¬ (i:Int) < (os.length:Int):=by omega
   go_wp2_with fail;go_end0;have:=HI.out;rw [ja (by omega)] at this;exact ⟨rfl,this⟩
def frF (k ss lo hi d0 d1 d2:Int) (v:Value):Nat→Value
 | 0=>I6 k
 | 1=>U3 ss
 | 2=>U6 lo
 | 3=>U6 hi
 | 4=>U8 d0
 | 5=>U8 d1
 | 6=>U8 d2
 | _=>v
def midO:Tr→Opn
 | ⟨none⟩=>o0
 | ⟨some (o,_,_,_)⟩=>o
theorem partsE {t:Tr} {w:World} {e:Ending} (h:PartsP t w e w'):∃ (p:Option Addr) (o:Opn) (q:Option Addr) (bb:Bool),e=.returned (.tuple #[.agg #[.pointer p],.agg #[I6 o.kd,U3 o.cl,U3 o.ck,U3 o.st,U6 o.rf,I3 o.ch],.agg #[.pointer q],.bool bb])∧Bel w w'∧o=midO t:=by
 obtain ⟨hb,hm⟩:=h
 cases t using Tr.cs with
 | nil=>exact ⟨none,o0,none,false,hm,hb,rfl⟩
 | node o rk l r=>
  obtain ⟨p,q,e,-,-⟩:=hm;exact ⟨p,o,q,true,e,hb,rfl⟩
structure AnsS (w W:World) (fa f:Nat→Value) (pa:Option Addr) (m:Nat) (o:Opn):Prop where
 below:Bel w W
 ask:RowIs W w.heap.size 58 8 fa
 set:RowIs W (w.heap.size+1) 103 1 (fun _=>.pointer pa)
 res:RowIs W (w.heap.size+1+1) 58 8 (frF 0 0 0 0 0 0 0 (.slice none 0 0))
 f:RowIs W (w.heap.size+1+1+1) 58 8 f
 mid:RowIs W m 43 6 (opV o)
 mlt:w.heap.size+1+1+1 < m
theorem AnsS.keep {w W:World} (h:AnsS w W fa f pa m o) (hb:Bel W W'):AnsS w W' fa f pa m o:=
 ⟨h.below.trans (hb.mono h.below.size),h.ask.below hb h.ask.lt,h.set.below hb h.set.lt,h.res.below hb h.res.lt,h.f.below hb h.f.lt,h.mid.below hb h.mid.lt,h.mlt⟩
theorem AnsS.put {w W:World} (h:AnsS w W fa f pa m o) (k:Nat) (v:Value):AnsS w (W.setCell ⟨w.heap.size+1+1+1,k,none⟩ v) fa (fun j=>if j=k then v else f j) pa m o:=by
 have hm:=h.mlt;have hs:=h.below.size;refine ⟨?_,h.ask.setOther (by show w.heap.size+1+1+1≠_;omega) v,h.set.setOther (by show w.heap.size+1+1+1≠_;omega) v,h.res.setOther (by show w.heap.size+1+1+1≠_;omega) v,h.f.set k v,h.mid.setOther (by show w.heap.size+1+1+1≠_;omega) v,hm⟩;have hb:=But.set (w:=W) (w.heap.size+1+1+1) k v;exact ⟨hb.os.trans h.below.os,hb.tape.trans h.below.tape,hb.output.trans h.below.output,qi hs hb.size,fun i hi=>(hb.block i (by omega) (fun e=>by have e:i=w.heap.size+1+1+1:=e;omega)).trans (h.below.block i hi)⟩
def answF (ss lo hi d0 d1 d2:Int) (tr:Tr):Frm:=
 if dig (strOfNums tr.txt) 0=d0∧dig (strOfNums tr.txt) 1=d1∧dig (strOfNums tr.txt) 2=d2 then ⟨2,ss,lo,hi,0,0,0,[]⟩ else if tr.size≤4 then ⟨4,ss,lo,hi,0,0,0,tr.list⟩ else ⟨3,ss,lo,hi,0,0,0,[midO tr]⟩
end Go.Proofs.YtgccjefbedpmpaaGreatDoor

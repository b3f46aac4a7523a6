import Derived.Test.YtgccjefbedpmpaaGreatDoorJKeepS
import Derived.WalkKit
import Derived.LaidEql
import Derived.Stop.Asserts
import Derived.RowKitTokens
import Derived.Deep.QuietTactic
import Derived.BigQuiet
import Derived.Shelf.LaysM
import Derived.Shelf.Strconv.Itoa3
import Derived.OwnWalk
import Derived.Maps.AppendAt
import Derived.ChangeKeysEq
import Derived.Deep.RegionHeld3
import Derived.Test.YtgccjefbedpmpaaGreatDoorYTk
namespace Go.Proofs.YtgccjefbedpmpaaGreatDoor
open Go.RowKit Go.Extern.Stop Go.Stop Go.Extern Go.Shelf
set_option maxRecDepth 100000
set_option maxHeartbeats 8000000
variable {M l l1 r vs : List Int} {X : Nat→Prop} {a b w' w3 wr : World} {c0 c4 c5 v : Value} {cap g i o pg rb : Nat} {m most n x : Int}
def hP:Value:=.iface 330 (.agg #[(pt 15 179)])
section
variable (w : World) (a : Addr) (v : Value)
end
theorem in_nil (p:ByteArray) (w:World):Cs 120 #[.string p,.nilIface] w fun e w'=>e=.returned .nilIface∧w'=w:=by
 go_enter Tryz.func120,Tryz.ntmps120;go_wp2;go_ret;exact ⟨rfl,rfl⟩
theorem Ref.err {w:World} (h:Ref w n v):Err v:=by obtain ⟨g,rfl,_⟩:=h;exact ⟨_,_,rfl⟩
theorem Ref.below {w:World} (h:Ref w n v) (hb:Bel w w'):Ref w' n v:=by
 obtain ⟨g,rfl,hc⟩:=h;exact ⟨g,rfl,(hb.cell (block_lt_of_cell hc)).trans hc⟩
theorem infoAOp:(Tryz.prog.info? 43).map (·.size)=some 6:=by kernel_rfl
theorem isSession_any (n:Int) (w:World):Cs 61 #[U3 n] w fun e w'=>e=.returned (.bool (decide (1≤n)&&decide (n≤1073741823)))∧w'=w:=by
 go_enter Tryz.func61,Tryz.ntmps61;go_wp2_with (go_at_call 89;refine (from1_any _ _ _).mono ?_;rintro e w1 ⟨rfl,rfl⟩);go_ret;exact ⟨rfl,rfl⟩
theorem Byt.tail (h:Byt (x::l)):Byt l:=fun y hy=>h y (zb _ hy)
theorem Byt.head (h:Byt (x::l)):0≤x∧x < 256:=h x (qy ..)
theorem Byt.right {a b:List Int} (h:Byt (a++b)):Byt b:=fun y hy=>h y (jo _ hy)
def vP (most:Int):Nat→Nat→Int→List Int→Option (Int×List Int)
 | 0,_,_,_=>none
 | _+1,_,_,[]=>none
 | k+1,i,n,b::l=>if 128≤b then vP most k (i+1) (n+b % 128*128 ^ i) l else if b=0∧0 < i then none else if most < n+b % 128*128 ^ i then none else some (n+b % 128*128 ^ i,l)
theorem vP_sound (most:Int):∀ (k i:Nat) (n:Int) (l:List Int) (m:Int) (r:List Int),Byt l→vP most k i n l=some (m,r)→∃ v:Nat,m=n+v*128 ^ i∧l=vn v++r∧(0 < i→0 < v)∧m≤most:=by
 intro k
 induction k with
 | zero=>intro i n l m r _ h;cases h
 | succ k ih=>
  intro i n l m r hb h
  cases l with
  | nil=>cases h
  | cons b l=>
   obtain ⟨b0,b1⟩:=hb.head;rw [vP] at h;split at h
   ·obtain ⟨v,e1,e2,e3,e4⟩:=ih (i+1) _ l m r hb.tail h;have e3:=e3 (by omega);refine ⟨(b % 128).toNat+128*v,?_,?_,fun _=>by omega,e4⟩
    ·rw [e1,Int.pow_succ];have:(((b % 128).toNat+128*v:Nat):Int)=b % 128+128*v:=by omega
     rw [this,Int.add_mul,Int.add_assoc,Int.mul_comm (128 ^ i) 128,← Int.mul_assoc,Int.mul_comm (v:Int) 128]
    ·rw [vn_ge (by omega),show ((b % 128).toNat+128*v) / 128=v by omega,e2];rw [show (128+(((b % 128).toNat+128*v:Nat):Int) % 128)=b by omega];rfl
   ·split at h
    ·cases h
    ·split at h
     ·cases h
     ·cases h;refine ⟨b.toNat,?_,?_,fun hi=>by omega,by omega⟩
      ·rw [show b % 128=b by omega,kh b0]
      ·rw [vn_lt (by omega),kh b0];rfl
theorem vP_complete (most:Int):∀ (k i:Nat) (n:Int) (v:Nat) (r:List Int),v < 128 ^ (k+1)→(0 < i→0 < v)→n+v*128 ^ i≤most→vP most (k+1) i n (vn v++r)=some (n+v*128 ^ i,r):=by
 intro k
 induction k with
 | zero=>
  intro i n v r h1 h2 h3;have hv:v < 128:=by simpa using h1
  rw [vn_lt hv];show vP most 1 i n ((v:Int)::r)=_;rw [vP,if_neg (by omega),if_neg (fun e=>by have:=h2 e.2;omega),show (v:Int) % 128=v by omega,if_neg (by omega)]
 | succ k ih=>
  intro i n v r h1 h2 h3;by_cases hv:v < 128
  ·rw [vn_lt hv];show vP most (k+1+1) i n ((v:Int)::r)=_;rw [vP,if_neg (by omega),if_neg (fun e=>by have:=h2 e.2;omega),show (v:Int) % 128=v by omega,if_neg (by omega)]
  ·rw [vn_ge hv];show vP most (k+1+1) i n ((128+(v:Int) % 128)::(vn (v / 128)++r))=_
   have e:n+(v:Int)*128 ^ i=n+(128+(v:Int) % 128) % 128*128 ^ i+((v / 128:Nat):Int)*128 ^ (i+1):=by
    rw [Int.pow_succ,Int.mul_comm (128 ^ i) 128,← Int.mul_assoc,Int.add_assoc,← Int.add_mul];congr 2;omega
   rw [vP,if_pos (by omega),e,ih (i+1) _ (v / 128) r (by rw [Nat.pow_succ] at h1;omega) (fun _=>by omega) (by rw [← e];exact h3)]
def vR (most:Int) (l:List Int):Option (Int×List Int):=vP most 9 0 0 l
theorem xz (hb:Byt l) (h:vR most l=some (m,r)):0≤m∧m≤most∧l=vn m.toNat++r:=by
 obtain ⟨v,e1,e2,_,e4⟩:=vP_sound most 9 0 0 l m r hb h;have e:m=v:=by rw [e1];simp
 subst e;exact ⟨by omega,e4,by rw [Int.toNat_natCast];exact e2⟩
theorem x7 (hm:most < 9223372036854775808) (h0:0≤m) (h1:m≤most) (r:List Int):vR most (vn m.toNat++r)=some (m,r):=by
 have h:=vP_complete most 8 0 0 m.toNat r (by omega) (fun h=>by omega) (by simp;omega);unfold vR;rw [h];simp [Int.toNat_of_nonneg h0]
def oP:List Int→Option (Opn×List Int)
 | []=>none
 | k::l0=>
  match vR 1048575 l0 with
  | none=>none
  | some (cl,l1)=>match vR 1048575 l1 with
   | none=>none
   | some (ck,l2)=>match vR 1073741823 l2 with
    | none=>none
    | some (st,l3)=>match vR 1099511627775 l3 with
     | none=>none
     | some (rf,l4)=>if k=1 then match vR 1114111 l4 with
       | none=>none
       | some (ch,l5)=>some (⟨k,cl,ck,st,rf,ch⟩,l5)
      else some (⟨k,cl,ck,st,rf,0⟩,l4)
theorem oP_sound {o:Opn} (hb:Byt l) (h:oP l=some (o,r)):OpW o∧l=opB o++r:=by
 cases l with
 | nil=>cases h
 | cons k l0=>
  have hk:=hb.head;have hb0:=hb.tail;rw [oP] at h;split at h
  ·cases h
  rename_i cl l1 h1;obtain ⟨a1,b1,rfl⟩:=xz hb0 h1;have hb1:=hb0.right;split at h
  ·cases h
  rename_i ck l2 h2;obtain ⟨a2,b2,rfl⟩:=xz hb1 h2;have hb2:=hb1.right;split at h
  ·cases h
  rename_i st l3 h3;obtain ⟨a3,b3,rfl⟩:=xz hb2 h3;have hb3:=hb2.right;split at h
  ·cases h
  rename_i rf l4 h4;obtain ⟨a4,b4,rfl⟩:=xz hb3 h4;have hb4:=hb3.right;split at h
  ·rename_i hk1;subst hk1;split at h
   ·cases h
   rename_i ch l5 h5;obtain ⟨a5,b5,rfl⟩:=xz hb4 h5;cases h;exact ⟨⟨hk,⟨a1,b1⟩,⟨a2,b2⟩,⟨a3,b3⟩,⟨a4,b4⟩,⟨a5,b5,fun e=>absurd rfl e⟩⟩,by simp [opB,List.append_assoc]⟩
  ·rename_i hk1;cases h;exact ⟨⟨hk,⟨a1,b1⟩,⟨a2,b2⟩,⟨a3,b3⟩,⟨a4,b4⟩,⟨Int.le_refl 0,by show (0:Int)≤1114111;decide,fun _=>rfl⟩⟩,by simp [opB,hk1,List.append_assoc]⟩
theorem oP_complete {o:Opn} (h:OpW o) (r:List Int):oP (opB o++r)=some (o,r):=by
 obtain ⟨k,cl,ck,st,rf,ch⟩:=o;obtain ⟨hk,⟨a1,b1⟩,⟨a2,b2⟩,⟨a3,b3⟩,⟨a4,b4⟩,⟨a5,b5,c5⟩⟩:=h;dsimp only at *;unfold opB;dsimp only;rw [jn,oP,qr,x7 (by decide) a1 b1];dsimp only;rw [qr,x7 (by decide) a2 b2];dsimp only;rw [qr,x7 (by decide) a3 b3];dsimp only;rw [qr,x7 (by decide) a4 b4];dsimp only;by_cases e:k=1
 ·rw [if_pos e,if_pos e,x7 (by decide) a5 b5]
 ·rw [if_neg e,if_neg e,c5 e];rfl
def osP:Nat→List Int→Option (List Opn×List Int)
 | 0,l=>some ([],l)
 | n+1,l=>match oP l with
  | none=>none
  | some (o,l1)=>match osP n l1 with
   | none=>none
   | some (os,l2)=>some (o::os,l2)
def osB:List Opn→List Int
 | []=>[]
 | o::os=>opB o++osB os
theorem osP_sound:∀ (n:Nat) {l:List Int} {os:List Opn} {r:List Int},Byt l→osP n l=some (os,r)→os.length=n∧(∀ o∈os,OpW o)∧l=osB os++r:=by
 intro n
 induction n with
 | zero=>intro l os r _ h;cases h;exact ⟨rfl,fun _ h=>(by cases h),rfl⟩
 | succ n ih=>
  intro l os r hb h;rw [osP] at h;split at h
  ·cases h
  rename_i o l1 h1;obtain ⟨w1,rfl⟩:=oP_sound hb h1;split at h
  ·cases h
  rename_i os' l2 h2;obtain ⟨w2,w3,rfl⟩:=ih hb.right h2;cases h;exact ⟨by simp [w2],fun x hx=>(qu.1 hx).elim (fun e=>e▸w1) (w3 x),by simp [osB,List.append_assoc]⟩
theorem osP_complete:∀ (os:List Opn) (r:List Int),(∀ o∈os,OpW o)→osP os.length (osB os++r)=some (os,r):=by
 intro os
 induction os with
 | nil=>intro r _;rfl
 | cons o os ih=>
  intro r h;rw [qp,osP,osB,qr,oP_complete (h o (qy ..))];dsimp only;rw [ih r fun x hx=>h x (zb _ hx)]
structure Frm where
 kd:Int
 ss:Int
 lo:Int
 hi:Int
 d0:Int
 d1:Int
 d2:Int
 ops:List Opn
def frB (f:Frm):List Int:=f.kd::(vn f.ss.toNat++((if f.kd≠5 then vn f.lo.toNat++vn f.hi.toNat else [])++((if f.kd=1 then [f.d0,f.d1,f.d2] else [])++if 2 < f.kd then (f.ops.length:Int)::osB f.ops else [])))
def rgP (k:Int) (l:List Int):Option (Int×Int×List Int):=
 if 1≤k∧k≤4 then match vR 1099511627776 l with
  | none=>none
  | some (lo,l1)=>match vR 1099511627776 l1 with
   | none=>none
   | some (hi,l2)=>some (lo,hi,l2)
 else some (0,0,l)
def dgP (k:Int) (l:List Int):Option (Int×Int×Int×List Int):=
 if k=1 then match l with
  | a::b::c::l=>some (a,b,c,l)
  | _=>none
 else some (0,0,0,l)
def opsP (k:Int) (l:List Int):Option (List Opn×List Int):=
 if 3≤k∧k≤5 then match l with
  | []=>none
  | n::l=>osP n.toNat l
 else some ([],l)
def frP:List Int→Option (Frm×List Int)
 | []=>none
 | k::l0=>match vR 1073741823 l0 with
  | none=>none
  | some (ss,l1)=>match rgP k l1 with
   | none=>none
   | some (lo,hi,l2)=>match dgP k l2 with
    | none=>none
    | some (a,b,c,l3)=>match opsP k l3 with
     | none=>none
     | some (os,l4)=>some (⟨k,ss,lo,hi,a,b,c,os⟩,l4)
structure FrW (f:Frm):Prop where
 kd:1≤f.kd∧f.kd≤5
 ss:0≤f.ss∧f.ss≤1073741823
 lo:0≤f.lo∧f.lo≤1099511627776∧(f.kd=5→f.lo=0)
 hi:0≤f.hi∧f.hi≤1099511627776∧(f.kd=5→f.hi=0)
 dg:f.kd≠1→f.d0=0∧f.d1=0∧f.d2=0
 n:f.ops.length < 256∧(f.kd≤2→f.ops=[])
 ops:∀ o∈f.ops,OpW o
theorem frP_sound {f:Frm} (hb:Byt l) (h:frP l=some (f,[])) (hk:1≤f.kd∧f.kd≤5):FrW f∧l=frB f:=by
 cases l with
 | nil=>cases h
 | cons k l0=>
  have hb0:=hb.tail;rw [frP] at h;split at h
  ·cases h
  rename_i ss l1 h1;obtain ⟨a1,b1,rfl⟩:=xz hb0 h1;have hb1:=hb0.right;split at h
  ·cases h
  rename_i lo hi l2 h2
  have h2':(0≤lo∧lo≤1099511627776)∧(0≤hi∧hi≤1099511627776)∧(if 1≤k∧k≤4 then l1=vn lo.toNat++(vn hi.toNat++l2) else lo=0∧hi=0∧l1=l2):=by
   unfold rgP at h2;split at h2
   ·rename_i c;rw [if_pos c];split at h2
    ·cases h2
    rename_i lo' l1' e1;obtain ⟨p1,p2,rfl⟩:=xz hb1 e1;split at h2
    ·cases h2
    rename_i hi' l2' e2;obtain ⟨p3,p4,rfl⟩:=xz hb1.right e2;cases h2;exact ⟨⟨p1,p2⟩,⟨p3,p4⟩,rfl⟩
   ·rename_i c;rw [if_neg c];cases h2;exact ⟨by omega,by omega,rfl,rfl,rfl⟩
  have hb2:Byt l2:=by
   obtain ⟨_,_,e⟩:=h2';split at e
   ·subst e;exact hb1.right.right
   ·obtain ⟨_,_,rfl⟩:=e;exact hb1
  split at h
  ·cases h
  rename_i a b c l3 h3
  have h3':if k=1 then l2=[a,b,c]++l3 else (a=0∧b=0∧c=0)∧l2=l3:=by
   unfold dgP at h3;split at h3
   ·rename_i e;rw [if_pos e];split at h3
    ·cases h3;rfl
    ·cases h3
   ·rename_i e;rw [if_neg e];cases h3;exact ⟨⟨rfl,rfl,rfl⟩,rfl⟩
  have hb3:Byt l3:=by
   split at h3'
   ·subst h3';exact hb2.right
   ·obtain ⟨_,rfl⟩:=h3';exact hb2
  split at h
  ·cases h
  rename_i os l4 h4;cases h;dsimp only at hk
  have h4':os.length < 256∧(∀ o∈os,OpW o)∧(if 2 < k then l3=(os.length:Int)::osB os else os=[]∧l3=[]):=by
   unfold opsP at h4;split at h4
   ·rename_i e;rw [if_pos (by omega)];split at h4
    ·cases h4
    ·rename_i n l';have hn:=hb3.head;obtain ⟨q1,q2,q3⟩:=osP_sound n.toNat hb3.tail h4;refine ⟨by omega,q2,?_⟩;rw [q1,q3,kh hn.1,jd]
   ·rename_i e;rw [if_neg (by omega)];cases h4;exact ⟨by simp,fun _ h=>(by cases h),rfl,rfl⟩
  obtain ⟨q1,q2,q3⟩:=h2';obtain ⟨q4,q5,q6⟩:=h4';refine ⟨⟨hk,⟨a1,b1⟩,⟨q1.1,q1.2,fun e=>?_⟩,⟨q2.1,q2.2,fun e=>?_⟩,fun e=>?_,⟨q4,fun e=>?_⟩,q5⟩,?_⟩
  ·rw [if_neg (by dsimp only at e;omega)] at q3;exact q3.1
  ·rw [if_neg (by dsimp only at e;omega)] at q3;exact q3.2.1
  ·rw [if_neg e] at h3';exact h3'.1
  ·rw [if_neg (by dsimp only at e;omega)] at q6;exact q6.1
  ·unfold frB;dsimp only
   have e1:l1=(if k≠5 then vn lo.toNat++vn hi.toNat else [])++l2:=by
    by_cases e:k=5
    ·rw [if_neg (by omega)] at q3;rw [if_neg (by omega)];exact q3.2.2
    ·rw [if_pos (by omega)] at q3;rw [if_pos e,q3,qr]
   have e2:l2=(if k=1 then [a,b,c] else [])++l3:=by
    by_cases e:k=1
    ·rw [if_pos e] at h3' ⊢;exact h3'
    ·rw [if_neg e] at h3' ⊢;exact h3'.2
   have e3:l3=(if 2 < k then (os.length:Int)::osB os else []):=by
    by_cases e:2 < k
    ·rw [if_pos e] at q6 ⊢;exact q6
    ·rw [if_neg e] at q6 ⊢;exact q6.2
   rw [← e3,← e2,← e1]
theorem frP_complete {f:Frm} (h:FrW f):frP (frB f)=some (f,[]):=by
 obtain ⟨k,ss,lo,hi,a,b,c,os⟩:=f;obtain ⟨⟨k1,k2⟩,⟨a1,b1⟩,⟨a2,b2,c2⟩,⟨a3,b3,c3⟩,hd,⟨n1,n2⟩,ho⟩:=h;dsimp only at *;unfold frB;dsimp only;rw [frP,x7 (by decide) a1 b1];dsimp only
 have e1:∀ l,rgP k ((if k≠5 then vn lo.toNat++vn hi.toNat else [])++l)=some (lo,hi,l):=fun l=>by
  unfold rgP;by_cases e:k=5
  ·rw [if_neg (by omega),if_neg (by omega),c2 e,c3 e];rfl
  ·rw [if_pos (by omega),if_pos e,qr,x7 (by decide) a2 b2];dsimp only;rw [x7 (by decide) a3 b3]
 have e2:∀ l,dgP k ((if k=1 then [a,b,c] else [])++l)=some (a,b,c,l):=fun l=>by
  unfold dgP;by_cases e:k=1
  ·rw [if_pos e,if_pos e];rfl
  ·obtain ⟨rfl,rfl,rfl⟩:=hd e;rw [if_neg e,if_neg e];rfl
 have e3:opsP k (if 2 < k then (os.length:Int)::osB os else [])=some (os,[]):=by
  unfold opsP;by_cases e:2 < k
  ·rw [if_pos (by omega),if_pos e];dsimp only;have:=osP_complete os [] ho;rw [jd] at this;rw [Int.toNat_natCast,this]
  ·rw [if_neg (by omega),if_neg e,n2 (by omega)]
 rw [e1];dsimp only;rw [e2];dsimp only;rw [e3]
def op6 (v0 v1 v2 v3 v4 v5:Value):Nat→Value
 | 0=>v0
 | 1=>v1
 | 2=>v2
 | 3=>v3
 | 4=>v4
 | _=>v5
theorem RowIs.far {w:World} {t n:Nat} {f:Nat→Value} (h:RowIs w g t n f) (hne:o≠g) (k:Nat) (v:Value):RowIs (w.setCell (Ad o k) v) g t n f:=(heap_setCell_other _ _ _ _ fun e=>hne e.symm).trans h
theorem But.setRow (h:But X a b) (hg:a.heap.size≤g) (cs:Array Value):But X a (b.setRow g cs):=
 ⟨by rw [show (b.setRow g cs).heap.size=b.heap.size by simp];exact h.size,h.os,h.tape,h.output,fun i hi hx=>(setRow_other _ _ _ _ (by omega)).trans (h.block i hi hx)⟩
structure Rd (w:World) (rb g off cap:Nat) (l:List Int):Prop where
 row:RowIs w rb 269 1 (fun _=>.slice (some (Ad g off)) l.length cap)
 room:l.length < cap
 big:cap≤9223372036854775807
 bytes:∀ i (h:i < l.length),w.cell? ⟨g,off+i,none⟩=some (U8 l[i])
 byt:Byt l
 ne:g≠rb
theorem Rd.but {w:World} {off:Nat} (h:Rd w rb g off cap l) (hb:Bel w w'):Rd w' rb g off cap l:=
 ⟨h.row.below hb h.row.lt,h.room,h.big,fun i hi=>(hb.cell (block_lt_of_cell (h.bytes i hi))).trans (h.bytes i hi),h.byt,h.ne⟩
theorem k8 {w:World} (h:Sents w) (hb:But (fun x=>x=rb) w w') (hg:15≤rb):Sents w':=by
 have k:∀ g,g < 15→(∃ a,w.cell? (Ad g 0)=some (.iface 435 (.pointer (some a))))→∃ a,w'.cell? (Ad g 0)=some (.iface 435 (.pointer (some a))):=fun g hl ⟨a,e⟩=>⟨a,(qz (hb.block g (block_lt_of_cell e) (by omega))).trans e⟩;exact ⟨k _ (by decide) h.bounds,k _ (by decide) h.own,k _ (by decide) h.order,k _ (by decide) h.extra,k _ (by decide) h.count,k _ (by decide) h.short,k _ (by decide) h.more,k _ (by decide) h.long,k _ (by decide) h.check,k _ (by decide) h.other⟩
theorem next_nil (rb g off cap:Nat) (w:World) (h:Rd w rb g off cap []) (a:Addr) (hx:w.cell? (Ad 2 0)=some (.iface 435 (.pointer (some a)))) :
  Cs 247 #[(pt rb 0)] w fun e w'=>e=.returned (.tuple #[U8 0,.iface 435 (.pointer (some a))])∧∃ n,w'=w.drewN n:=by
 have c0:w.cell? (Ad rb 0)=some (.slice (some (Ad g off)) 0 cap):=h.row.cell (by omega);go_enter Tryz.func247,Tryz.ntmps247;go_wp2;go_quiet (fail);go_wp2;go_ret2;exact ⟨rfl,_,rfl⟩
theorem xg (rb g off cap:Nat) (b:Int) (l:List Int) (w:World) (h:Rd w rb g off cap (b::l)) :
  Cs 247 #[(pt rb 0)] w fun e w'=>e=.returned (.tuple #[U8 b,.nilIface])∧Rd w' rb g (off+1) (cap-1) l∧But (fun x=>x=rb) w w'∧w'.heap.size=w.heap.size:=by
 have c0:w.cell? (Ad rb 0)=some (.slice (some (Ad g off)) (l.length+1) cap):=h.row.cell (by omega);have c1:w.cell? (Ad g off)=some (U8 b):=h.bytes 0 (by simp);have hc:=h.room;have hb:=h.big;rw [qp] at hc;have f0:=h.row.free 0;have e1:¬ (cap:Int) < 1:=by omega
 have e2:¬ cap=1:=by omega
 have e3:¬ ((l.length:Int)+1)=0:=by omega
 go_enter Tryz.func247,Tryz.ntmps247;go_wp2;go_ret2;refine ⟨rfl,⟨(h.row.set 0 _).congr fun j hj=>by rw [if_pos (by omega)],by omega,by omega,fun i hi=>?_,h.byt.tail,h.ne⟩,(But.refl (fun x=>x=rb) w).setCell (p:=(Ad rb 0)) (Or.inl rfl) _,by simp [World.setCell]⟩;rw [qz (heap_setCell_other _ _ _ _ h.ne),show off+1+i=off+(i+1) by omega,h.bytes (i+1) (by simpa using hi)];rfl
theorem or_add (n c:Nat) (i:Nat) (hn:n < 128 ^ i):n ||| c*128 ^ i=n+c*128 ^ i:=by
 have e:(128:Nat) ^ i=2 ^ (7*i):=by rw [Nat.pow_mul]
 rw [e] at hn ⊢;rw [Nat.or_comm,Nat.mul_comm,← Nat.two_pow_add_eq_or_of_lt hn c,Nat.add_comm]
theorem bits_or64 (a b:Nat) (ha:a < 18446744073709551616) (hb:b < 18446744073709551616):bits .or .u64 (a:Int) (b:Int)=((a ||| b:Nat):Int):=by
 have h:a ||| b < 2 ^ 64:=Nat.or_lt_two_pow (by omega) (by omega);show (IntKind.u64.wrap ((BitVec.ofInt 64 (a:Int) ||| BitVec.ofInt 64 (b:Int)).toNat:Int))=_;have e1:(BitVec.ofInt 64 (a:Int)).toNat=a:=by rw [BitVec.toNat_ofInt];omega
 have e2:(BitVec.ofInt 64 (b:Int)).toNat=b:=by rw [BitVec.toNat_ofInt];omega
 rw [BitVec.toNat_or,e1,e2,u64r _ (by omega)]
theorem pow_27 (i:Nat):(2:Int) ^ (7*i)=128 ^ i:=by
 rw [Int.pow_mul];rfl
theorem bits_grp (n c i:Nat) (hn:n < 128 ^ i) (hc:c < 128) (hi:i < 9):bits .or .u64 (n:Int) (IntKind.u64.wrap ((c:Int)*2 ^ (7*i)))=((n+c*128 ^ i:Nat):Int):=by
 have hp:(128:Nat) ^ i≤72057594037927936:=by
  match i,hi with
  | 0,_ | 1,_ | 2,_ | 3,_ | 4,_ | 5,_ | 6,_ | 7,_ | 8,_=>decide
 have hm:c*128 ^ i≤127*72057594037927936:=Nat.mul_le_mul (by omega) hp;have e:(c:Int)*2 ^ (7*i)=((c*128 ^ i:Nat):Int):=by rw [pow_27];simp
 rw [e,u64r _ (by omega),bits_or64 _ _ (by omega) (by omega),or_add n c i hn]
def VPost (R:Option (Int×List Int)) (rb g:Nat) (w:World) (e:Ending) (w':World):Prop:=
 (match R with
  | none=>∃ x,e=.returned (.tuple #[U6 0,x])∧Err x
  | some (m,r)=>e=.returned (.tuple #[U6 m,.nilIface])∧∃ off' cap',Rd w' rb g off' cap' r)∧But (fun x=>x=rb) w w'∧w'.heap.size=w.heap.size
theorem VPost.bad {R:Option (Int×List Int)} {w:World} {x:Value} (hR:R=none) (hx:Err x) (hb:But (fun x=>x=rb) w w') (hs:w'.heap.size=w.heap.size):VPost R rb g w (.returned (.tuple #[U6 0,x])) w':=by
 subst hR;exact ⟨⟨_,rfl,hx⟩,hb,hs⟩
theorem VPost.good {R:Option (Int×List Int)} {off:Nat} {w:World} (hR:R=some (m,r)) (hr:Rd w' rb g off cap r) (hb:But (fun x=>x=rb) w w') (hs:w'.heap.size=w.heap.size):VPost R rb g w (.returned (.tuple #[U6 m,.nilIface])) w':=by
 subst hR;exact ⟨⟨rfl,_,_,hr⟩,hb,hs⟩
theorem But.drewN (h:But X a b) (n:Nat):But X a (b.drewN n):=⟨h.size,h.os,h.tape,h.output,h.block⟩
theorem rvar_any (most:Int) (rb g off cap:Nat) (l:List Int) (w:World) (h:Rd w rb g off cap l) (hS:Sents w) (hg9:15≤rb) :
  Cs 248 #[(pt rb 0),U6 most] w fun e w'=>VPost (vR most l) rb g w e w':=by
 go_enter Tryz.func248,Tryz.ntmps248;go_wp2;go_loopw [6,7] (fun nv sv wr=>∃ (i:Nat) (n:Nat) (off1 cap1:Nat) (l1:List Int),i≤9∧nv=U6 n∧sv=I6 (7*(i:Int))∧n < 128 ^ i∧Rd wr rb g off1 cap1 l1∧vP most (9-i) i n l1=vR most l∧But (fun x=>x=rb) w wr∧wr.heap.size=w.heap.size) (fun _ sv _=>63-(intOf sv).toNat)
 case atStart=>exact ⟨0,0,off,cap,l,by omega,rfl,rfl,by decide,h,rfl,But.refl _ _,rfl⟩
 case round=>
  obtain ⟨i,n,off1,cap1,l1,hi,rfl,rfl,hn,hr,hv,hbl,hsz⟩:=hrel;obtain ⟨⟨aB,sB⟩,-,-,-,-,⟨aS,sS⟩,-,⟨aL,sL⟩,-⟩:=k8 hS hbl hg9;by_cases hlt:i < 9
  ·have li:7*(i:Int) < 63:=by omega
   obtain ⟨m,hm9⟩:∃ m,9-i=m+1:=⟨8-i,by omega⟩;rw [hm9] at hv
   cases l1 with
   | nil=>
    have Hv:Hid (_=vR most l):=hv;clear hv;go_wp2_with (go_at_call 247;refine (next_nil rb g off1 cap1 wr hr aS sS).mono ?_;rintro e w1 ⟨rfl,k1,rfl⟩);go_ret2;exact VPost.bad Hv.out.symm ⟨_,_,rfl⟩ (hbl.drewN _) hsz
   | cons b l1=>
    obtain ⟨b0,b1⟩:=hr.byt.head;rw [vP] at hv;obtain ⟨c,rfl⟩:∃ c:Nat,b=c:=⟨b.toNat,by omega⟩;have Hv:Hid (_=vR most l):=hv;clear hv;by_cases hc:(c:Int) < 128
    ·have hc':¬ (128:Int)≤(c:Int):=by omega
     have hcm:(c:Int) % 128=c:=by omega
     rw [if_neg hc',hcm] at Hv;have hbg:=bits_grp n c i hn (by omega) hlt;have eN:(n:Int)+(c:Int)*128 ^ i=((n+c*128 ^ i:Nat):Int):=by simp
     rw [eN] at Hv;generalize n+c*128 ^ i=N at *;by_cases h0:(c:Int)=0∧0 < i
     ·rw [if_pos h0] at Hv;obtain ⟨h0a,h0b⟩:=h0;obtain rfl:c=0:=by omega
      have l0:(0:Int) < 7*(i:Int):=by omega
      go_wp2_with (go_at_call 247;refine (xg rb g off1 cap1 (0:Nat) l1 wr hr).mono ?_;rintro e w1 ⟨rfl,hr1,hb1,hs1⟩;have hb1':=hbl.trans hb1;obtain ⟨⟨aB1,sB1⟩,-,-,-,-,-,-,⟨aL1,sL1⟩,-⟩:=k8 hS hb1' hg9);go_quiet (fail);go_wp2;go_ret2;exact VPost.bad Hv.out.symm ⟨_,_,rfl⟩ (hb1'.drewN _) (hs1.trans hsz)
     ·rw [if_neg h0] at Hv;by_cases e:c=0
      ·obtain rfl:=e;have l0:¬ (0:Int) < 7*(i:Int):=by omega
       rw [show ((0:Nat):Int)*2 ^ (7*i)=0 by simp,show IntKind.u64.wrap 0=0 from rfl] at hbg;clear h0;by_cases hgt:most < (N:Int)
       ·rw [if_pos hgt] at Hv;go_wp2_with (go_at_call 247;refine (xg rb g off1 cap1 (0:Nat) l1 wr hr).mono ?_;rintro e w1 ⟨rfl,hr1,hb1,hs1⟩;have hb1':=hbl.trans hb1;obtain ⟨⟨aB1,sB1⟩,-,-,-,-,-,-,⟨aL1,sL1⟩,-⟩:=k8 hS hb1' hg9);go_quiet (fail);go_wp2;go_ret2;exact VPost.bad Hv.out.symm ⟨_,_,rfl⟩ (hb1'.drewN _) (hs1.trans hsz)
       ·rw [if_neg hgt] at Hv;go_wp2_with (go_at_call 247;refine (xg rb g off1 cap1 (0:Nat) l1 wr hr).mono ?_;rintro e w1 ⟨rfl,hr1,hb1,hs1⟩;have hb1':=hbl.trans hb1);go_ret2;exact VPost.good Hv.out.symm hr1 hb1' (hs1.trans hsz)
      ·have hcz:((c:Int)==0)=false:=by simpa using e
       clear h0;by_cases hgt:most < (N:Int)
       ·rw [if_pos hgt] at Hv;go_wp2_with (go_at_call 247;refine (xg rb g off1 cap1 c l1 wr hr).mono ?_;rintro e w1 ⟨rfl,hr1,hb1,hs1⟩;have hb1':=hbl.trans hb1;obtain ⟨⟨aB1,sB1⟩,-,-,-,-,-,-,⟨aL1,sL1⟩,-⟩:=k8 hS hb1' hg9);go_quiet (fail);go_wp2;go_ret2;exact VPost.bad Hv.out.symm ⟨_,_,rfl⟩ (hb1'.drewN _) (hs1.trans hsz)
       ·rw [if_neg hgt] at Hv;go_wp2_with (go_at_call 247;refine (xg rb g off1 cap1 c l1 wr hr).mono ?_;rintro e w1 ⟨rfl,hr1,hb1,hs1⟩;have hb1':=hbl.trans hb1);go_ret2;exact VPost.good Hv.out.symm hr1 hb1' (hs1.trans hsz)
    ·have hc':(128:Int)≤(c:Int):=by omega
     rw [if_pos hc'] at Hv;obtain ⟨cm,hcm⟩:∃ cm:Nat,(c:Int) % 128=cm:=⟨c % 128,by omega⟩;have hbg:=bits_grp n cm i hn (by omega) hlt;rw [hcm] at Hv;have eN:(n:Int)+(cm:Int)*128 ^ i=((n+cm*128 ^ i:Nat):Int):=by simp
     rw [eN] at Hv
     have hN:n+cm*128 ^ i < 128 ^ (i+1):=by
      have:cm*128 ^ i≤127*128 ^ i:=Nat.mul_le_mul_right _ (by omega);rw [Nat.pow_succ];omega
     generalize n+cm*128 ^ i=N at *;go_wp2_with (go_at_call 247;refine (xg rb g off1 cap1 c l1 wr hr).mono ?_;rintro e w1 ⟨rfl,hr1,hb1,hs1⟩);go_roundw
     case rel=>exact ⟨i+1,N,_,_,l1,by omega,rfl,by go_num,hN,hr1,by rw [show 9-(i+1)=m by omega];exact Hv.out,hbl.trans hb1,hs1.trans hsz⟩
     case measure=>simp [intOf];omega
  ·obtain rfl:i=9:=by omega
   have Hv:Hid (_=vR most l):=hv;clear hv;go_wp2;go_quiet (fail);go_wp2;go_ret2;exact VPost.bad Hv.out.symm ⟨_,_,rfl⟩ (hbl.drewN _) hsz
def itoa_ren:Go.Shelf.Ren:=⟨fun | 171=>278 | 243=>317 | 246=>330 | 283=>335 | 284=>336 | 285=>337 | 286=>338 | 129=>302 | 317=>339 | 318=>340 | 319=>341 | 320=>342 | 337=>343 | 338=>344 | n=>n,fun | 3=>3 | 9=>9 | 2=>2 | 4=>4 | 171=>426 | 0=>0 | 53=>41 | 37=>59 | 5=>5 | 173=>428 | 212=>432 | 51=>39 | 20=>20 | 213=>433 | 46=>251 | 232=>137 | 233=>434 | n=>n,fun | 17=>12 | 18=>13 | 19=>14 | n=>n⟩
theorem itoa_lays:Go.Proofs.LaysM.n171 Tryz.prog itoa_ren:={
 mixed:=by kernel_rfl
 f129:=Tryz.func302.trans (congrArg some (by kernel_rfl))
 f171:=Tryz.func278.trans (congrArg some (by kernel_rfl))
 f243:=Tryz.func317.trans (congrArg some (by kernel_rfl))
 f246:=Tryz.func330.trans (congrArg some (by kernel_rfl))
 f283:=Tryz.func335.trans (congrArg some (by kernel_rfl))
 f284:=Tryz.func336.trans (congrArg some (by kernel_rfl))
 f285:=Tryz.func337.trans (congrArg some (by kernel_rfl))
 f286:=Tryz.func338.trans (congrArg some (by kernel_rfl))
 f317:=Tryz.func339.trans (congrArg some (by kernel_rfl))
 f318:=Tryz.func340.trans (congrArg some (by kernel_rfl))
 f319:=Tryz.func341.trans (congrArg some (by kernel_rfl))
 f320:=Tryz.func342.trans (congrArg some (by kernel_rfl))
 f337:=Tryz.func343.trans (congrArg some (by kernel_rfl))
 f338:=Tryz.func344.trans (congrArg some (by kernel_rfl))
 t0:=Tryz.underlying0
 a0:=Tryz.isAgg0
 z0:=Tryz.sizeOf0
 v0:=Tryz.zeroValue0
 t2:=Tryz.underlying2
 a2:=Tryz.isAgg2
 z2:=Tryz.sizeOf2
 v2:=Tryz.zeroValue2
 t3:=Tryz.underlying3
 a3:=Tryz.isAgg3
 z3:=Tryz.sizeOf3
 v3:=Tryz.zeroValue3
 t4:=Tryz.underlying4
 a4:=Tryz.isAgg4
 z4:=Tryz.sizeOf4
 v4:=Tryz.zeroValue4
 t5:=Tryz.underlying5
 a5:=Tryz.isAgg5
 z5:=Tryz.sizeOf5
 v5:=Tryz.zeroValue5
 t9:=Tryz.underlying9
 a9:=Tryz.isAgg9
 z9:=Tryz.sizeOf9
 v9:=Tryz.zeroValue9
 t20:=Tryz.underlying20
 a20:=Tryz.isAgg20
 z20:=Tryz.sizeOf20
 v20:=Tryz.zeroValue20
 t37:=Tryz.underlying59
 a37:=Tryz.isAgg59
 z37:=Tryz.sizeOf59
 v37:=Tryz.zeroValue59
 t46:=Tryz.underlying251
 a46:=Tryz.isAgg251
 z46:=Tryz.sizeOf251
 v46:=Tryz.zeroValue251
 t51:=Tryz.underlying39
 a51:=Tryz.isAgg39
 z51:=Tryz.sizeOf39
 v51:=Tryz.zeroValue39
 t53:=Tryz.underlying41
 a53:=Tryz.isAgg41
 z53:=Tryz.sizeOf41
 v53:=Tryz.zeroValue41
 t171:=Tryz.underlying426
 a171:=Tryz.isAgg426
 z171:=Tryz.sizeOf426
 v171:=Tryz.zeroValue426
 t173:=Tryz.underlying428
 a173:=Tryz.isAgg428
 z173:=Tryz.sizeOf428
 v173:=Tryz.zeroValue428
 t212:=Tryz.underlying432
 a212:=Tryz.isAgg432
 z212:=Tryz.sizeOf432
 v212:=Tryz.zeroValue432
 t213:=Tryz.underlying433
 a213:=Tryz.isAgg433
 z213:=Tryz.sizeOf433
 t232:=Tryz.underlying137
 a232:=Tryz.isAgg137
 z232:=Tryz.sizeOf137
 v232:=Tryz.zeroValue137
 t233:=Tryz.underlying434
 a233:=Tryz.isAgg434
 z233:=Tryz.sizeOf434
 v233:=Tryz.zeroValue434
 g17:=by kernel_rfl
 g18:=by kernel_rfl
 g19:=by kernel_rfl
 i0:=by kernel_rfl
 i2:=by kernel_rfl
 i3:=by kernel_rfl
 i4:=by kernel_rfl
 i5:=by kernel_rfl
 i9:=by kernel_rfl
 i20:=by kernel_rfl
 i37:=by kernel_rfl
 i46:=by kernel_rfl
 i51:=by kernel_rfl
 i53:=by kernel_rfl
 i171:=by kernel_rfl
 i173:=by kernel_rfl
 i212:=by kernel_rfl
 i232:=by kernel_rfl
 i233:=by kernel_rfl
 m17:=by kernel_rfl
 m18:=by kernel_rfl
 m19:=by kernel_rfl }
theorem Tens.tab {w:World} (h:Tens w) (s:String) (hs:Tryz.prog.globalNamed s=some 12):Lib.TabIs Tryz.prog w s .u64 Lib.pow10Tab:=by
 obtain ⟨t,f,h⟩:=h;unfold Lib.TabIs World.var?;rw [hs];show (match w.heap[12]? with | some (.cells cs _ _)=>some cs | _=>none)=_;rw [h]
theorem itoa_any (n:Int) (h0:-9223372036854775808≤n) (h1:n≤9223372036854775807) (w:World) (h:Tens w):Cs 278 #[I6 n] w fun e w'=>(∃ s,e=.returned (.string s))∧Bel w w':=by
 refine (Go.Proofs.Any.strconv_Itoa itoa_lays n h0 h1 w (h.tab _ (by kernel_rfl))).mono ?_;rintro e w' ⟨rfl,k,os,rfl⟩;exact ⟨⟨_,rfl⟩,⟨rfl,rfl,rfl,by show w.heap.size≤(w.heap++os).size;rw [Array.size_append];omega,fun i hi=>by show (w.heap++os)[i]?=_;rw [jl hi]⟩⟩
theorem rightOp_any (kd cl ck st rf ch:Int) (hcl:0≤cl∧cl < 4294967296) (hck:0≤ck∧ck < 4294967296) (h0:0≤rf) (h1:rf < 18446744073709551616) (w:World) (hS:Sents w) :
  Cs 92 #[.agg #[I6 kd,U3 cl,U3 ck,U3 st,U6 rf,I3 ch]] w fun e w'=>∃ x,e=.returned x∧(okOp kd cl ck st rf ch=true→x=.nilIface)∧(okOp kd cl ck st rf ch=false→Err x)∧Bel w w':=by
 have hz:Bel w (w.alloc (.cells #[I6 kd,U3 cl,U3 ck,U3 st,U6 rf,I3 ch] 43)):=(qj _ _).alloc (qb _) _;have hO:=opFault_any kd cl ck st rf ch hcl hck h0 h1 _ (hS.below hz);have HO:Hid (Calls _ _ _ _ _):=hO;clear hO;generalize okOp kd cl ck st rf ch=R at *;cases R
 ·go_enter Tryz.func92,Tryz.ntmps92
  go_wp2_with (first
   | (go_at_call 164;refine HO.out.mono ?_;rintro e w1 ⟨x,rfl,-,hx,hb1⟩;obtain ⟨t,y,rfl⟩:=hx rfl)
   | (go_at_call 110;refine (refuse_err _ _ ⟨_,_,rfl⟩ _).mono ?_;rintro e w2 ⟨⟨x,rfl,hr⟩,hb2⟩))
  go_ret;have hb:=hz.trans (hb1.mono (by simp));exact ⟨_,rfl,fun h=>(by cases h),fun _=>hr.err,hb.trans (hb2.mono hb.size)⟩
 ·go_enter Tryz.func92,Tryz.ntmps92
  go_wp2_with (first
   | (go_at_call 164;refine HO.out.mono ?_;rintro e w1 ⟨x,rfl,hx,-,hb1⟩;obtain rfl:=hx rfl)
   | (go_at_call 110;refine (refuse_nil _ _).mono ?_;rintro e w2 ⟨rfl,rfl⟩))
  go_ret;exact ⟨_,rfl,fun _=>rfl,fun h=>(by cases h),hz.trans (hb1.mono (by simp))⟩
theorem xn (k:Int) (w:World):Cs 182 #[I6 k] w fun e w'=>e=.returned (.bool (decide (1≤k)&&decide (k≤4)))∧w'=w:=by
 by_cases a1:1≤k <;> by_cases a2:k≤4
 all_goals (
  go_enter Tryz.func182,Tryz.ntmps182;go_wp2;go_ret
  exact ⟨by simp [a1,a2],rfl⟩)
def cntL (k:Int):Int×Int:=if k=3 then (1,1) else if k=4 then (0,4) else if k=5 then (1,6) else (0,0)
theorem counts_any (k:Int) (w:World):Cs 241 #[I6 k] w fun e w'=>e=.returned (.tuple #[I6 (cntL k).1,I6 (cntL k).2])∧w'=w:=by
 by_cases a3:k=3
 ·subst a3;go_enter Tryz.func241,Tryz.ntmps241;go_wp2;go_ret2;exact ⟨rfl,rfl⟩
 ·by_cases a4:k=4
  ·subst a4;go_enter Tryz.func241,Tryz.ntmps241;go_wp2;go_ret2;exact ⟨rfl,rfl⟩
  ·by_cases a5:k=5
   ·subst a5;go_enter Tryz.func241,Tryz.ntmps241;go_wp2;go_ret2;exact ⟨rfl,rfl⟩
   ·go_enter Tryz.func241,Tryz.ntmps241;go_wp2;go_ret2;exact ⟨by simp [cntL,a3,a4,a5],rfl⟩
theorem hasOps_any (k:Int) (w:World):Cs 183 #[I6 k] w fun e w'=>e=.returned (.bool (decide (3≤k)&&decide (k≤5)))∧w'=w:=by
 have e:(decide (0 < (cntL k).2))=(decide (3≤k)&&decide (k≤5)):=by
  unfold cntL;split
  ·subst k;rfl
  ·split
   ·subst k;rfl
   ·split
    ·subst k;rfl
    ·rw [decide_eq_false (by decide)];by_cases h:3≤k
     ·rw [decide_eq_false (show ¬ k≤5 by omega),Bool.and_false]
     ·rw [decide_eq_false h];rfl
 go_enter Tryz.func183,Tryz.ntmps183;go_wp2_with (go_at_call 241;refine (counts_any _ _).mono ?_;rintro e w1 ⟨rfl,rfl⟩);go_ret;exact ⟨rfl,rfl⟩
def RPost {α:Type} (R:Option (α×List Int)) (good:α→World→Value→Prop) (bad:Value→Prop) (rb g:Nat) (w:World) (e:Ending) (w':World):Prop:=
 ∃ v,e=.returned v∧(match R with
  | none=>bad v
  | some (a,r)=>good a w' v∧∃ off' cap',Rd w' rb g off' cap' r)∧But (fun x=>x=rb) w w'
section
variable {α : Type} {R : Option (α × List Int)} {good : α → World → Value → Prop} {bad : Value → Prop} {rb g off cap : Nat} {w w' : World} {v : Value}
theorem RPost.no (hR:R=none) (hx:bad v) (hb:But (fun x=>x=rb) w w'):RPost R good bad rb g w (.returned v) w':=by
 subst hR;exact ⟨_,rfl,hx,hb⟩
theorem RPost.yes {a:α} (hR:R=some (a,r)) (hg:good a w' v) (hr:Rd w' rb g off cap r) (hb:But (fun x=>x=rb) w w'):RPost R good bad rb g w (.returned v) w':=by
 subst hR;exact ⟨_,rfl,⟨hg,_,_,hr⟩,hb⟩
end
theorem tens_but {w:World} (h:Tens w) (hb:But (fun x=>x=rb) w w') (hg:15≤rb):Tens w':=by
 obtain ⟨t,f,h⟩:=h;exact ⟨t,f,(hb.block _ (zf.1 h).1 (by show 12≠rb;omega)).trans h⟩
def gRng (a:Int×Int) (_:World) (v:Value):Prop:=v=.tuple #[U6 a.1,U6 a.2,.nilIface]
def bRng (v:Value):Prop:=∃ a b x,v=.tuple #[U6 a,U6 b,x]∧Err x
def rgP2 (k:Int) (l:List Int):Option ((Int×Int)×List Int):=(rgP k l).map fun x=>((x.1,x.2.1),x.2.2)
theorem rrng_any (k:Int) (rb g off cap:Nat) (l:List Int) (w:World) (h:Rd w rb g off cap l) (hS:Sents w) (hg9:15≤rb) :
  Cs 249 #[(pt rb 0),I6 k] w fun e w'=>RPost (rgP2 k l) gRng bRng rb g w e w':=by
 have hh:=xn k;by_cases hk:1≤k∧k≤4
 ·rw [decide_eq_true hk.1,decide_eq_true hk.2] at hh;have Hh:Hid (∀ w,Calls _ _ _ w _):=hh;have H1:=rvar_any 1099511627776 rb g off cap l w h hS hg9
  have HR:rgP2 k l=(match vR 1099511627776 l with
   | none=>none
   | some (lo,l1)=>match vR 1099511627776 l1 with
    | none=>none
    | some (hi,l2)=>some ((lo,hi),l2)):=by
   unfold rgP2 rgP;rw [if_pos hk]
   cases vR 1099511627776 l with
   | none=>rfl
   | some x=>
    obtain ⟨lo,l1⟩:=x;dsimp only
    cases vR 1099511627776 l1 with
    | none=>rfl
    | some y=>rfl
  generalize rgP2 k l=R at *
  cases hv:vR 1099511627776 l with
  | none=>
   rw [hv] at H1 HR;have HH1:Hid (Calls _ _ _ _ _):=H1;clear H1 hh;go_enter Tryz.func249,Tryz.ntmps249
   go_wp2_with (first
    | (go_at_call 182;refine (Hh.out _).mono ?_;rintro e w1 ⟨rfl,hw1⟩;obtain rfl:=hw1.symm)
    | (go_at_call 248;refine HH1.out.mono ?_;rintro e w2 ⟨⟨x,rfl,t,y,rfl⟩,hb2,hs2⟩))
   go_ret3;exact RPost.no HR ⟨_,_,_,rfl,_,_,rfl⟩ hb2
  | some x=>
   obtain ⟨lo,l1⟩:=x;rw [hv] at H1 HR;dsimp only at HR;have HH1:Hid (Calls _ _ _ _ _):=H1;clear H1 hh;go_enter Tryz.func249,Tryz.ntmps249;have H2:Hid (∀ W off' cap',Rd W rb g off' cap' l1→Sents W→Cs 248 #[(pt rb 0),U6 1099511627776] W fun e w'=>VPost (vR 1099511627776 l1) rb g W e w'):=fun W o c hr hs=>rvar_any _ rb g o c l1 W hr hs hg9
   cases hv2:vR 1099511627776 l1 with
   | none=>
    rw [hv2] at H2 HR
    go_wp2_with (first
     | (go_at_call 248;have hq:=hb2;clear hq;refine (H2.out _ _ _ hr2 hS2).mono ?_;rintro e w3 ⟨⟨x,rfl,t,y,rfl⟩,hb3,hs3⟩)
     | (go_at_call 182;refine (Hh.out _).mono ?_;rintro e w1 ⟨rfl,hw1⟩;obtain rfl:=hw1.symm)
     | (go_at_call 248;refine HH1.out.mono ?_;rintro e w2 ⟨⟨rfl,off2,cap2,hr2⟩,hb2,hs2⟩;have hS2:=k8 hS hb2 hg9))
    go_ret3;exact RPost.no HR ⟨_,_,_,rfl,_,_,rfl⟩ (hb2.trans hb3)
   | some y=>
    obtain ⟨hi,l2⟩:=y;rw [hv2] at H2 HR
    go_wp2_with (first
     | (go_at_call 248;have hq:=hb2;clear hq;refine (H2.out _ _ _ hr2 hS2).mono ?_;rintro e w3 ⟨⟨rfl,off3,cap3,hr3⟩,hb3,hs3⟩)
     | (go_at_call 182;refine (Hh.out _).mono ?_;rintro e w1 ⟨rfl,hw1⟩;obtain rfl:=hw1.symm)
     | (go_at_call 248;refine HH1.out.mono ?_;rintro e w2 ⟨⟨rfl,off2,cap2,hr2⟩,hb2,hs2⟩;have hS2:=k8 hS hb2 hg9))
    go_ret3;exact RPost.yes HR rfl hr3 (hb2.trans hb3)
 ·have e:(decide (1≤k)&&decide (k≤4))=false:=by simp;omega
  rw [e] at hh;have Hh:Hid (∀ w,Calls _ _ _ w _):=hh;have HR:rgP2 k l=some ((0,0),l):=by unfold rgP2 rgP;rw [if_neg hk];rfl
  generalize rgP2 k l=R at *;clear hh;go_enter Tryz.func249,Tryz.ntmps249;go_wp2_with (go_at_call 182;refine (Hh.out _).mono ?_;rintro e w1 ⟨rfl,hw1⟩;obtain rfl:=hw1.symm);go_ret3;exact RPost.yes HR rfl h (But.refl _ _)
def mosts (k:Int):List Int:=[1048575,1048575,1073741823,1099511627775]++if k=1 then [1114111] else []
def PartsAt (w:World) (g:Nat) (ms:List Int):Prop:=∀ i (h:i < ms.length),(∃ s:ByteArray,w.cell? ⟨g,i*2,none⟩=some (.string s))∧w.cell? ⟨g,i*2+1,none⟩=some (U6 ms[i])
theorem Qs (W:World) (X Y Z:Array Value) (t:TypeId) (g:Nat) (hg:g=W.heap.size) (j:Nat) (v:Value) (h:(X++Y)[j]?=some v):(W.alloc (.cells (X++(Y++Z)) t)).cell? (Ad g j)=some v:=by
 subst hg;rw [cell_of_row _ _ _ _ _ _ (heap_alloc_new W _),← Array.append_assoc];have hj:=(zf.1 h).1;rw [jl hj];exact h
theorem opParts_any (k:Int) (w:World):Cs 318 #[I6 k] w fun e w'=>∃ g cap,e=.returned (.slice (some (Ad g 0)) (mosts k).length cap)∧w.heap.size≤g∧PartsAt w' g (mosts k)∧Bel w w':=by
 by_cases hk:k=1
 ·subst hk;go_enter Tryz.func318,Tryz.ntmps318;go_wp2_with fail;go_ret;refine ⟨_,_,rfl,by omega,fun i hi=>?_,?_⟩
  ·match i,hi with
   | 0,_=>exact ⟨⟨_,Qs _ _ _ _ _ _ (by simp) 0 _ rfl⟩,Qs _ _ _ _ _ _ (by simp) 1 _ rfl⟩
   | 1,_=>exact ⟨⟨_,Qs _ _ _ _ _ _ (by simp) 2 _ rfl⟩,Qs _ _ _ _ _ _ (by simp) 3 _ rfl⟩
   | 2,_=>exact ⟨⟨_,Qs _ _ _ _ _ _ (by simp) 4 _ rfl⟩,Qs _ _ _ _ _ _ (by simp) 5 _ rfl⟩
   | 3,_=>exact ⟨⟨_,Qs _ _ _ _ _ _ (by simp) 6 _ rfl⟩,Qs _ _ _ _ _ _ (by simp) 7 _ rfl⟩
   | 4,_=>exact ⟨⟨_,Qs _ _ _ _ _ _ (by simp) 8 _ rfl⟩,Qs _ _ _ _ _ _ (by simp) 9 _ rfl⟩
  ·exact ((((qj _ _).alloc (qb _) _).alloc (by simp) _).alloc (by simp;omega) _).drew
 ·have hk':(k==1)=false:=by simpa using hk
  go_enter Tryz.func318,Tryz.ntmps318;go_wp2_with fail;go_ret;have hm:mosts k=[1048575,1048575,1073741823,1099511627775]:=by unfold mosts;rw [if_neg hk];rfl
  rw [hm];refine ⟨_,_,rfl,qb _,fun i hi=>?_,(qj _ _).alloc (qb _) _⟩
  match i,hi with
  | 0,_=>exact ⟨⟨_,(cell_of_row _ _ _ _ _ _ (heap_alloc_new w _)).trans rfl⟩,(cell_of_row _ _ _ _ _ _ (heap_alloc_new w _)).trans rfl⟩
  | 1,_=>exact ⟨⟨_,(cell_of_row _ _ _ _ _ _ (heap_alloc_new w _)).trans rfl⟩,(cell_of_row _ _ _ _ _ _ (heap_alloc_new w _)).trans rfl⟩
  | 2,_=>exact ⟨⟨_,(cell_of_row _ _ _ _ _ _ (heap_alloc_new w _)).trans rfl⟩,(cell_of_row _ _ _ _ _ _ (heap_alloc_new w _)).trans rfl⟩
  | 3,_=>exact ⟨⟨_,(cell_of_row _ _ _ _ _ _ (heap_alloc_new w _)).trans rfl⟩,(cell_of_row _ _ _ _ _ _ (heap_alloc_new w _)).trans rfl⟩
theorem Rd.set {w:World} {off:Nat} (h:Rd w rb g off cap l) (h1:o≠rb) (h2:o≠g) (k:Nat) (v:Value):Rd (w.setCell (Ad o k) v) rb g off cap l:=
 ⟨h.row.far h1 k v,h.room,h.big,fun i hi=>(qz (heap_setCell_other _ _ _ _ fun e=>h2 e.symm)).trans (h.bytes i hi),h.byt,h.ne⟩
theorem Rd.setRow {w:World} {off:Nat} (h:Rd w rb g off cap l) (h1:o≠rb) (h2:o≠g) (cs:Array Value):Rd (w.setRow o cs) rb g off cap l:=
 ⟨h.row.setRowOther h1 cs,h.room,h.big,fun i hi=>(qz (setRow_other _ _ _ _ fun e=>h2 e.symm)).trans (h.bytes i hi),h.byt,h.ne⟩
def d3 (a b c:Int):Nat→Value
 | 0=>U8 a
 | 1=>U8 b
 | _=>U8 c
def gDig (a:Int×Int×Int) (_:World) (v:Value):Prop:=v=.tuple #[.agg #[U8 a.1,U8 a.2.1,U8 a.2.2],.nilIface]
def bDig (v:Value):Prop:=∃ a b c x,v=.tuple #[.agg #[U8 a,U8 b,U8 c],x]∧Err x
def dgP2 (k:Int) (l:List Int):Option ((Int×Int×Int)×List Int):=(dgP k l).map fun x=>((x.1,x.2.1,x.2.2.1),x.2.2.2)
theorem rdig_any (k:Int) (rb g off cap:Nat) (l:List Int) (w:World) (h:Rd w rb g off cap l) (hgl:g < w.heap.size) (hS:Sents w) (hg9:15≤rb) :
  Cs 250 #[(pt rb 0),I6 k] w fun e w'=>RPost (dgP2 k l) gDig bDig rb g w e w':=by
 have hB0:Bel w ((w.alloc (.cells #[U8 0,U8 0,U8 0] 50)).alloc (.cells #[U8 0,U8 0,U8 0] 50)):=((qj _ _).alloc (qb _) _).alloc (by simp) _;have hsz:((w.alloc (.cells #[U8 0,U8 0,U8 0] 50)).alloc (.cells #[U8 0,U8 0,U8 0] 50)).heap.size=w.heap.size+2:=by simp
 have R0:RowIs ((w.alloc (.cells #[U8 0,U8 0,U8 0] 50)).alloc (.cells #[U8 0,U8 0,U8 0] 50)) w.heap.size 50 3 (d3 0 0 0):=(RowIs.new w 50 3 (d3 0 0 0)).below ((qj _ _).alloc (qb _) _) (by simp)
 have D0:RowIs ((w.alloc (.cells #[U8 0,U8 0,U8 0] 50)).alloc (.cells #[U8 0,U8 0,U8 0] 50)) (w.heap.size+1) 50 3 (d3 0 0 0):=by
  have:=RowIs.new (w.alloc (.cells #[U8 0,U8 0,U8 0] 50)) 50 3 (d3 0 0 0);rw [show (w.alloc (.cells #[U8 0,U8 0,U8 0] 50)).heap.size=w.heap.size+1 by simp] at this;exact this
 have h0:=h.but hB0;have hS0:=hS.below hB0;have B0:But (fun x=>x=rb) w _:=But.below hB0;have hrl:=h.row.lt;generalize hW0:((w.alloc (.cells #[U8 0,U8 0,U8 0] 50)).alloc (.cells #[U8 0,U8 0,U8 0] 50))=W0 at *;have HW0:Hid (_=W0):=hW0;clear hW0;have n1:w.heap.size≠rb:=by omega
 have n2:w.heap.size+1≠rb:=by omega
 have n3:w.heap.size+1≠g:=by omega
 have n4:w.heap.size≠w.heap.size+1:=by omega
 have n3q:w.heap.size≠g:=by omega
 by_cases hk:k=1
 ·subst hk
  match l,h,h0 with
  | [],h,h0=>
   have HR:Hid (dgP2 1 []=none):=rfl;go_enter Tryz.func250,Tryz.ntmps250;go_wp2_with fail;rw [HW0.out];refine wp_loop_rounds 1 ?_;rw [rounds_succ];obtain ⟨-,-,-,-,-,⟨aS,sS⟩,-,-,-⟩:=hS0
   go_wp2_with (first
    | (go_at_call 247;refine (next_nil rb g _ _ _ h0 aS sS).mono ?_;rintro e w9 ⟨rfl,k9,rfl⟩;have e0:World.cell? _ ⟨w.heap.size+1,0,none⟩=some (U8 0):=D0.cell (show 0 < 3 by omega);have e1:World.cell? _ ⟨w.heap.size+1,1,none⟩=some (U8 0):=D0.cell (show 1 < 3 by omega);have e2:World.cell? _ ⟨w.heap.size+1,2,none⟩=some (U8 0):=D0.cell (show 2 < 3 by omega))
    | (refine wpList_store_row rfl 50 (.tmp 4) (.tmp 24) rfl w.heap.size _ rfl rfl _ _ (R0.drewM k9) infoDg (by rw [rowOf_size];rfl) (by simp [Value.oneCell']) ?_))
   exact bodyPost_ret (ko Tryz.results250 _ _ w.heap.size 50 _ (0,0) _ _ rfl rfl ((R0.drewM k9).setRow (d3 0 0 0)) Tryz.underlying50 rfl infoDg) rfl (RPost.no HR.out ⟨_,_,_,_,rfl,_,_,rfl⟩ ((B0.drewN k9).setRow (qb _) _))
  | [x],h,h0=>
   have HR:Hid (dgP2 1 [x]=none):=rfl;go_enter Tryz.func250,Tryz.ntmps250;go_wp2_with fail;rw [HW0.out];refine wp_loop_rounds 2 ?_;rw [rounds_succ];go_wp2_with (go_at_call 247;refine (xg rb g _ _ x ([]) _ h0).mono ?_;rintro e w1 ⟨rfl,hr1,hb1,hs1⟩;have D1q:=D0.but hb1 n2;have c1:=D1q.cell (show 0 < 3 by omega);have f1:=D1q.free 0);have D1:=(D1q.set 0 (U8 x)).congr (f':=d3 x 0 0) (fun j hj=>by match j,hj with | 0,_=>rfl | 1,_=>rfl | 2,_=>rfl);have R1:=(R0.but hb1 n1).far (fun e=>n4 e.symm) 0 (U8 x);have hr1':=hr1.set n2 n3 0 (U8 x);have B1:But (fun x=>x=rb) w _:=(B0.trans hb1).setCell (p:=⟨w.heap.size+1,0,none⟩) (Or.inr (zc _)) (U8 x);have hS1:=k8 hS B1 hg9;clear D1q c1 f1;generalize w1.setCell ⟨w.heap.size+1,0,none⟩ (U8 x)=u1 at *;rw [rounds_succ];obtain ⟨-,-,-,-,-,⟨aS,sS⟩,-,-,-⟩:=hS1
   go_wp2_with (first
    | (go_at_call 247;refine (next_nil rb g _ _ _ hr1' aS sS).mono ?_;rintro e w9 ⟨rfl,k9,rfl⟩;have e0:World.cell? _ ⟨w.heap.size+1,0,none⟩=some (U8 x):=D1.cell (show 0 < 3 by omega);have e1:World.cell? _ ⟨w.heap.size+1,1,none⟩=some (U8 0):=D1.cell (show 1 < 3 by omega);have e2:World.cell? _ ⟨w.heap.size+1,2,none⟩=some (U8 0):=D1.cell (show 2 < 3 by omega))
    | (refine wpList_store_row rfl 50 (.tmp 4) (.tmp 24) rfl w.heap.size _ rfl rfl _ _ (R1.drewM k9) infoDg (by rw [rowOf_size];rfl) (by simp [Value.oneCell']) ?_))
   exact bodyPost_ret (ko Tryz.results250 _ _ w.heap.size 50 _ (0,0) _ _ rfl rfl ((R1.drewM k9).setRow (d3 x 0 0)) Tryz.underlying50 rfl infoDg) rfl (RPost.no HR.out ⟨_,_,_,_,rfl,_,_,rfl⟩ ((B1.drewN k9).setRow (qb _) _))
  | [x,y],h,h0=>
   have HR:Hid (dgP2 1 [x,y]=none):=rfl;go_enter Tryz.func250,Tryz.ntmps250;go_wp2_with fail;rw [HW0.out];refine wp_loop_rounds 3 ?_;rw [rounds_succ];go_wp2_with (go_at_call 247;refine (xg rb g _ _ x ([y]) _ h0).mono ?_;rintro e w1 ⟨rfl,hr1,hb1,hs1⟩;have D1q:=D0.but hb1 n2;have c1:=D1q.cell (show 0 < 3 by omega);have f1:=D1q.free 0);have D1:=(D1q.set 0 (U8 x)).congr (f':=d3 x 0 0) (fun j hj=>by match j,hj with | 0,_=>rfl | 1,_=>rfl | 2,_=>rfl);have R1:=(R0.but hb1 n1).far (fun e=>n4 e.symm) 0 (U8 x);have hr1':=hr1.set n2 n3 0 (U8 x);have B1:But (fun x=>x=rb) w _:=(B0.trans hb1).setCell (p:=⟨w.heap.size+1,0,none⟩) (Or.inr (zc _)) (U8 x);have hS1:=k8 hS B1 hg9;clear D1q c1 f1;generalize w1.setCell ⟨w.heap.size+1,0,none⟩ (U8 x)=u1 at *;rw [rounds_succ];go_wp2_with (go_at_call 247;refine (xg rb g _ _ y ([]) _ hr1').mono ?_;rintro e w2 ⟨rfl,hr2,hb2,hs2⟩;have D2q:=D1.but hb2 n2;have c2:=D2q.cell (show 1 < 3 by omega);have f2:=D2q.free 1);have D2:=(D2q.set 1 (U8 y)).congr (f':=d3 x y 0) (fun j hj=>by match j,hj with | 0,_=>rfl | 1,_=>rfl | 2,_=>rfl);have R2:=(R1.but hb2 n1).far (fun e=>n4 e.symm) 1 (U8 y);have hr2':=hr2.set n2 n3 1 (U8 y);have B2:But (fun x=>x=rb) w _:=(B1.trans hb2).setCell (p:=⟨w.heap.size+1,1,none⟩) (Or.inr (zc _)) (U8 y);have hS2:=k8 hS B2 hg9;clear D2q c2 f2;generalize w2.setCell ⟨w.heap.size+1,1,none⟩ (U8 y)=u2 at *;rw [rounds_succ];obtain ⟨-,-,-,-,-,⟨aS,sS⟩,-,-,-⟩:=hS2
   go_wp2_with (first
    | (go_at_call 247;refine (next_nil rb g _ _ _ hr2' aS sS).mono ?_;rintro e w9 ⟨rfl,k9,rfl⟩;have e0:World.cell? _ ⟨w.heap.size+1,0,none⟩=some (U8 x):=D2.cell (show 0 < 3 by omega);have e1:World.cell? _ ⟨w.heap.size+1,1,none⟩=some (U8 y):=D2.cell (show 1 < 3 by omega);have e2:World.cell? _ ⟨w.heap.size+1,2,none⟩=some (U8 0):=D2.cell (show 2 < 3 by omega))
    | (refine wpList_store_row rfl 50 (.tmp 4) (.tmp 24) rfl w.heap.size _ rfl rfl _ _ (R2.drewM k9) infoDg (by rw [rowOf_size];rfl) (by simp [Value.oneCell']) ?_))
   exact bodyPost_ret (ko Tryz.results250 _ _ w.heap.size 50 _ (0,0) _ _ rfl rfl ((R2.drewM k9).setRow (d3 x y 0)) Tryz.underlying50 rfl infoDg) rfl (RPost.no HR.out ⟨_,_,_,_,rfl,_,_,rfl⟩ ((B2.drewN k9).setRow (qb _) _))
  | x::y::z::l,h,h0=>
   have HR:Hid (dgP2 1 (x::y::z::l)=some ((x,y,z),l)):=rfl;go_enter Tryz.func250,Tryz.ntmps250;go_wp2_with fail;rw [HW0.out];refine wp_loop_rounds 4 ?_;rw [rounds_succ];go_wp2_with (go_at_call 247;refine (xg rb g _ _ x (y::z::l) _ h0).mono ?_;rintro e w1 ⟨rfl,hr1,hb1,hs1⟩;have D1q:=D0.but hb1 n2;have c1:=D1q.cell (show 0 < 3 by omega);have f1:=D1q.free 0);have D1:=(D1q.set 0 (U8 x)).congr (f':=d3 x 0 0) (fun j hj=>by match j,hj with | 0,_=>rfl | 1,_=>rfl | 2,_=>rfl);have R1:=(R0.but hb1 n1).far (fun e=>n4 e.symm) 0 (U8 x);have hr1':=hr1.set n2 n3 0 (U8 x);have B1:But (fun x=>x=rb) w _:=(B0.trans hb1).setCell (p:=⟨w.heap.size+1,0,none⟩) (Or.inr (zc _)) (U8 x);have hS1:=k8 hS B1 hg9;clear D1q c1 f1;generalize w1.setCell ⟨w.heap.size+1,0,none⟩ (U8 x)=u1 at *;rw [rounds_succ];go_wp2_with (go_at_call 247;refine (xg rb g _ _ y (z::l) _ hr1').mono ?_;rintro e w2 ⟨rfl,hr2,hb2,hs2⟩;have D2q:=D1.but hb2 n2;have c2:=D2q.cell (show 1 < 3 by omega);have f2:=D2q.free 1);have D2:=(D2q.set 1 (U8 y)).congr (f':=d3 x y 0) (fun j hj=>by match j,hj with | 0,_=>rfl | 1,_=>rfl | 2,_=>rfl);have R2:=(R1.but hb2 n1).far (fun e=>n4 e.symm) 1 (U8 y);have hr2':=hr2.set n2 n3 1 (U8 y);have B2:But (fun x=>x=rb) w _:=(B1.trans hb2).setCell (p:=⟨w.heap.size+1,1,none⟩) (Or.inr (zc _)) (U8 y);have hS2:=k8 hS B2 hg9;clear D2q c2 f2;generalize w2.setCell ⟨w.heap.size+1,1,none⟩ (U8 y)=u2 at *;rw [rounds_succ];go_wp2_with (go_at_call 247;refine (xg rb g _ _ z (l) _ hr2').mono ?_;rintro e w3 ⟨rfl,hr3,hb3,hs3⟩;have D3q:=D2.but hb3 n2;have c3:=D3q.cell (show 2 < 3 by omega);have f3:=D3q.free 2);have D3:=(D3q.set 2 (U8 z)).congr (f':=d3 x y z) (fun j hj=>by match j,hj with | 0,_=>rfl | 1,_=>rfl | 2,_=>rfl);have R3:=(R2.but hb3 n1).far (fun e=>n4 e.symm) 2 (U8 z);have hr3':=hr3.set n2 n3 2 (U8 z);have B3:But (fun x=>x=rb) w _:=(B2.trans hb3).setCell (p:=⟨w.heap.size+1,2,none⟩) (Or.inr (zc _)) (U8 z);have hS3:=k8 hS B3 hg9;clear D3q c3 f3;generalize w3.setCell ⟨w.heap.size+1,2,none⟩ (U8 z)=u3 at *;rw [rounds_succ];have e0:World.cell? _ ⟨w.heap.size+1,0,none⟩=some (U8 x):=D3.cell (show 0 < 3 by omega);have e1:World.cell? _ ⟨w.heap.size+1,1,none⟩=some (U8 y):=D3.cell (show 1 < 3 by omega);have e2:World.cell? _ ⟨w.heap.size+1,2,none⟩=some (U8 z):=D3.cell (show 2 < 3 by omega);go_wp2_with (refine wpList_store_row rfl 50 (.tmp 4) (.tmp 30) rfl w.heap.size _ rfl rfl _ _ R3 infoDg (by rw [rowOf_size];rfl) (by simp [Value.oneCell']) ?_);exact bodyPost_ret (ko Tryz.results250 _ _ w.heap.size 50 _ (0,0) _ _ rfl rfl (R3.setRow (d3 x y z)) Tryz.underlying50 rfl infoDg) rfl (RPost.yes HR.out rfl (hr3'.setRow n1 (fun e=>n3q e) _) (B3.setRow (qb _) _))
 ·have hk':(k != 1)=true:=by simpa using hk
  have HR:dgP2 k l=some ((0,0,0),l):=by unfold dgP2 dgP;rw [if_neg hk];rfl
  generalize dgP2 k l=R at *;go_enter Tryz.func250,Tryz.ntmps250;go_wp2_with fail;rw [HW0.out];exact bodyPost_ret (ko Tryz.results250 _ _ w.heap.size 50 _ (0,0) _ _ rfl rfl R0 Tryz.underlying50 rfl infoDg) rfl (RPost.yes HR rfl h0 B0)
def vsP:List Int→List Int→Option (List Int×List Int)
 | [],l=>some ([],l)
 | m::ms,l=>match vR m l with
  | none=>none
  | some (x,l1)=>match vsP ms l1 with
   | none=>none
   | some (xs,l2)=>some (x::xs,l2)
def opOf (k:Int) (xs:List Int):Opn:=⟨k,xs.getD 0 0,xs.getD 1 0,xs.getD 2 0,xs.getD 3 0,xs.getD 4 0⟩
theorem oP_vs (k:Int) (l:List Int):oP (k::l)=(vsP (mosts k) l).map fun x=>(opOf k x.1,x.2):=by
 unfold oP mosts;by_cases hk:k=1
 ·rw [if_pos hk];simp only [jn,zw,vsP]
  cases vR 1048575 l with
  | none=>rfl
  | some a=>
   obtain ⟨x1,l1⟩:=a;dsimp only
   cases vR 1048575 l1 with
   | none=>rfl
   | some a=>
    obtain ⟨x2,l2⟩:=a;dsimp only
    cases vR 1073741823 l2 with
    | none=>rfl
    | some a=>
     obtain ⟨x3,l3⟩:=a;dsimp only
     cases vR 1099511627775 l3 with
     | none=>rfl
     | some a=>
      obtain ⟨x4,l4⟩:=a;dsimp only;rw [if_pos hk]
      cases vR 1114111 l4 with
      | none=>rfl
      | some a=>rfl
 ·rw [if_neg hk];simp only [jd,vsP]
  cases vR 1048575 l with
  | none=>rfl
  | some a=>
   obtain ⟨x1,l1⟩:=a;dsimp only
   cases vR 1048575 l1 with
   | none=>rfl
   | some a=>
    obtain ⟨x2,l2⟩:=a;dsimp only
    cases vR 1073741823 l2 with
    | none=>rfl
    | some a=>
     obtain ⟨x3,l3⟩:=a;dsimp only
     cases vR 1099511627775 l3 with
     | none=>rfl
     | some a=>
      obtain ⟨x4,l4⟩:=a;dsimp only;rw [if_neg hk];rfl
def gOp (o:Opn) (_:World) (v:Value):Prop:=v=.tuple #[.agg (oC o),.nilIface]
def bOp (v:Value):Prop:=∃ x,v=.tuple #[.agg oZ,x]∧Err x
theorem PartsAt.keep {w:World} {ms:List Int} (h:PartsAt w g ms) (hb:∀ i,w'.cell? (Ad g i)=w.cell? (Ad g i)):PartsAt w' g ms:=fun i hi=>by
 obtain ⟨⟨s,h1⟩,h2⟩:=h i hi;exact ⟨⟨s,(hb _).trans h1⟩,(hb _).trans h2⟩
def nV (vs:List Int) (j:Nat):Value:=U6 (vs.getD j 0)
theorem nV_set (hi:vs.length=i) (x:Int) (j:Nat):(if j=i then U6 x else nV vs j)=nV (vs++[x]) j:=by
 unfold nV;by_cases h:j=i
 ·subst h;rw [if_pos rfl];simp [List.getD_eq_getElem?_getD,hi]
 ·rw [if_neg h];by_cases h2:j < vs.length
  ·simp [List.getD_eq_getElem?_getD,List.getElem?_append_left h2]
  ·have h3:¬ j < (vs++[x]).length:=by rw [qe,zp];omega
   rw [zv,zv,zj (by omega),zj (by omega)]
structure OpS (w wr:World) (rb g pg:Nat) (M vs l1:List Int):Prop where
 res:RowIs wr w.heap.size 43 6 (op6 (I6 0) (U3 0) (U3 0) (U3 0) (U6 0) (I3 0))
 num:RowIs wr (w.heap.size+1) 405 5 (nV vs)
 parts:PartsAt wr pg M
 plt:pg < wr.heap.size
 rd:∃ off cap,Rd wr rb g off cap l1
 but:But (fun x=>x=rb) w wr
theorem OpS.alloc {w:World} (h:OpS w wr rb g pg M vs l1) (o:Obj):OpS w (wr.alloc o) rb g pg M vs l1:=by
 have hb:Bel wr (wr.alloc o):=(qj _ _).alloc (qb _) o;obtain ⟨off,cap,hr⟩:=h.rd;exact ⟨h.res.below hb h.res.lt,h.num.below hb h.num.lt,h.parts.keep fun _=>hb.cell h.plt,ql h.plt hb.size,⟨off,cap,hr.but hb⟩,h.but.alloc o⟩
theorem OpS.read {w w2:World} {off:Nat} {l2:List Int} (h:OpS w wr rb g pg M vs l1) (hb:But (fun x=>x=rb) wr w2) (hr:Rd w2 rb g off cap l2) (h1:w.heap.size≠rb) (h2:w.heap.size+1≠rb) (h3:pg≠rb):OpS w w2 rb g pg M vs l2:=
 ⟨h.res.but hb h1,h.num.but hb h2,h.parts.keep fun _=>qz (hb.block pg h.plt h3),ql h.plt hb.size,⟨off,cap,hr⟩,h.but.trans hb⟩
theorem OpS.push {w:World} (h:OpS w wr rb g pg M vs l1) (hi:vs.length=i) (x:Int) (h2:w.heap.size+1≠rb) (h3:w.heap.size+1≠g) (h4:pg≠w.heap.size+1):OpS w (wr.setCell ⟨w.heap.size+1,i,none⟩ (U6 x)) rb g pg M (vs++[x]) l1:=by
 obtain ⟨off,cap,hr⟩:=h.rd;exact ⟨h.res.far (by omega) i _,(h.num.set i _).congr fun j _=>nV_set hi x j,h.parts.keep fun _=>qz (heap_setCell_other _ _ _ _ h4),by simpa [World.setCell] using h.plt,⟨off,cap,hr.set h2 h3 i _⟩,h.but.setCell (p:=⟨w.heap.size+1,i,none⟩) (Or.inr (zc _)) _⟩
theorem vsP_step (h:i < M.length):vsP (M.drop i) l1=(match vR M[i] l1 with
  | none=>none
  | some (x,l2)=>match vsP (M.drop (i+1)) l2 with
   | none=>none
   | some (xs,l3)=>some (x::xs,l3)):=by
 rw [yw h,vsP]
theorem mosts_get (k:Int):∀ j,(mosts k).getD j 0=if j=0∨j=1 then 1048575 else if j=2 then 1073741823 else if j=3 then 1099511627775 else if j=4∧k=1 then 1114111 else 0:=by
 intro j;unfold mosts;by_cases hk:k=1
 ·rw [if_pos hk]
  match j with
  | 0 | 1 | 2 | 3=>rfl
  | 4=>simp [hk]
  | n+5=>simp
 ·rw [if_neg hk]
  match j with
  | 0 | 1 | 2 | 3=>rfl
  | 4=>simp [hk]
  | n+5=>simp
theorem vs_bound (h:∀ j,0≤vs.getD j 0∧vs.getD j 0≤M.getD j 0) (hi:vs.length=i) (hx:0≤x∧x≤M.getD i 0):∀ j,0≤(vs++[x]).getD j 0∧(vs++[x]).getD j 0≤M.getD j 0:=by
 intro j;have e:=nV_set hi x j;unfold nV at e;by_cases hj:j=i
 ·subst hj;rw [if_pos rfl] at e;have:x=(vs++[x]).getD j 0:=by injection e
  rw [← this];exact hx
 ·rw [if_neg hj] at e;have:vs.getD j 0=(vs++[x]).getD j 0:=by injection e
  rw [← this];exact h j
theorem rop_any (rb g off cap:Nat) (l:List Int) (w:World) (h:Rd w rb g off cap l) (hgl:g < w.heap.size) (hS:Sents w) (hg9:15≤rb) :
  Cs 279 #[(pt rb 0)] w fun e w'=>RPost (oP l) gOp bOp rb g w e w':=by
 have hB0:Bel w (w.alloc (.cells oZ 43)):=(qj _ _).alloc (qb _) _;have R0:RowIs (w.alloc (.cells oZ 43)) w.heap.size 43 6 (op6 (I6 0) (U3 0) (U3 0) (U3 0) (U6 0) (I3 0)):=RowIs.new w _ 6 (op6 _ _ _ _ _ _);have h0:=h.but hB0;have hS0:=hS.below hB0;have hrl:=h.row.lt;have n1:w.heap.size≠rb:=by omega
 have n2:w.heap.size≠g:=by omega
 cases l with
 | nil=>
  obtain ⟨-,-,-,-,-,⟨aS,sS⟩,-,-,-⟩:=id hS0;go_enter Tryz.func279,Tryz.ntmps279
  go_wp2_with (first
   | (go_at_call 247;refine (next_nil rb g _ _ _ h0 aS sS).mono ?_;rintro e w1 ⟨rfl,k1,rfl⟩)
   | (go_at_call 120;refine (ku _ _ ⟨_,_,rfl⟩ _).mono ?_;rintro e w2 ⟨⟨x,rfl,hx⟩,hb2⟩;have R2:=(R0.drewM k1).below hb2 R0.lt)
   | (refine wpList_store_row rfl 43 (.tmp 2) (.tmp 16) rfl w.heap.size _ rfl rfl _ _ R2 infoAOp (by rw [rowOf_size];rfl) (by simp [Value.oneCell']) ?_))
  exact bodyPost_ret (ko Tryz.results279 _ _ w.heap.size 43 _ (0,0) _ _ rfl rfl (R2.setRow (op6 (I6 0) (U3 0) (U3 0) (U3 0) (U6 0) (I3 0))) Tryz.underlying43 rfl infoAOp) rfl (RPost.no rfl ⟨_,rfl,hx⟩ ((((But.below hB0).drewN k1).trans (But.below hb2)).setRow (qb _) _))
 | cons k l=>
  obtain ⟨b0,b1⟩:=h.byt.head;have HP:Hid (∀ W,Cs 318 #[I6 k] W fun e w'=>∃ g cap,e=.returned (.slice (some (Ad g 0)) (mosts k).length cap)∧W.heap.size≤g∧PartsAt w' g (mosts k)∧Bel W w'):=opParts_any k;have HR:Hid (oP (k::l)=(vsP (mosts k) l).map fun x=>(opOf k x.1,x.2)):=oP_vs k l;have hM5:(mosts k).length≤5:=by unfold mosts;split <;> decide
  have hM:∀ j,(mosts k).getD j 0=if j=0∨j=1 then 1048575 else if j=2 then 1073741823 else if j=3 then 1099511627775 else if j=4∧k=1 then 1114111 else 0:=mosts_get k;generalize mosts k=M at *;have HM:Hid (∀ j,M.getD j 0=_):=hM;have hM0:M≠[]:=fun e=>by have:=hM 0;rw [e] at this;simp at this
  clear hM;generalize oP (k::l)=R at *;go_enter Tryz.func279,Tryz.ntmps279
  go_wp2_with (first
   | (go_at_call 247;refine (xg rb g _ _ k l _ h0).mono ?_;rintro e w1 ⟨rfl,h1,hb1,hs1⟩)
   | (go_at_call 318;refine (HP.out _).mono ?_;rintro e w2 ⟨pg,pcap,rfl,hpg,hpt,hb2⟩))
  have hw1s:w1.heap.size=w.heap.size+1:=hs1.trans (by simp);have hpgs:w.heap.size+2≤pg:=by simp at hpg;omega
  have hplt:pg < w2.heap.size:=by
   exact block_lt_of_cell (hpt 0 (List.length_pos_iff.2 hM0)).2
  have hBn:Bel w1 (w1.alloc (.cells #[U6 0,U6 0,U6 0,U6 0,U6 0] 405)):=(qj _ _).alloc (qb _) _;have hB12:=hBn.trans (hb2.mono hBn.size)
  have N1:RowIs w2 (w.heap.size+1) 405 5 (nV []):=by
   have:=RowIs.new w1 405 5 (nV []);rw [hw1s] at this;exact this.below hb2 this.lt
  have S1:OpS w w2 rb g pg M [] l:=⟨(R0.but hb1 n1).below hB12 (R0.but hb1 n1).lt,N1,hpt,hplt,⟨_,_,h1.but hB12⟩,((But.below hB0).trans hb1).trans (But.below hB12)⟩;clear hb1 h1 hb2 hpt N1 hB12 hBn hpg h0 hS0;have n3:w.heap.size+1≠rb:=by omega
  have n4:w.heap.size+1≠g:=by omega
  have n5:pg≠rb:=by omega
  have n6:pg≠w.heap.size+1:=by omega
  go_loopw [23] (fun iv wr=>∃ (i:Nat) (vs l1:List Int),i≤M.length∧iv=I6 i∧vs.length=i∧(∀ j,0≤vs.getD j 0∧vs.getD j 0≤M.getD j 0)∧OpS w wr rb g pg M vs l1∧R=(vsP (M.drop i) l1).map fun x=>(opOf k (vs++x.1),x.2)) (fun iv _=>M.length-(intOf iv).toNat)
  case atStart=>exact ⟨0,[],l,qs _,rfl,rfl,fun j=>⟨by simp,by rw [HM.out];simp only [List.getD_nil];split <;> (try split) <;> (try split) <;> (try split) <;> decide⟩,S1,HR.out⟩
  case round=>
   obtain ⟨i,vs,l1,hi,rfl,hvs,hvb,S,hR⟩:=hrel;clear S1;by_cases hlt:i < M.length
   ·have li:(i:Int) < (M.length:Int):=by omega
    obtain ⟨⟨sn,c0⟩,c1⟩:=S.parts i hlt;rw [vsP_step hlt] at hR;have hMi:M.getD i 0=M[i]:=by simp [List.getD_eq_getElem?_getD,hlt]
    generalize M[i]=m at *;have SA:=S.alloc (.cells #[.string sn,U6 m] 409);obtain ⟨offA,capA,hrA⟩:=SA.rd;have hws:=S.but.size;have hns:=S.num.lt;have hSA:=k8 hS SA.but hg9;have HV:=rvar_any m rb g offA capA l1 _ hrA hSA hg9;have hi5:(i:Int) < 5:=by omega
    cases hv:vR m l1 with
    | none=>
     rw [hv] at HV hR;have HV':Hid (Calls _ _ _ _ _):=HV;have HR2:Hid (R=none):=hR;clear HV hR
     go_wp2_with (first
      | (go_at_call 248;refine HV'.out.mono ?_;rintro e w3 ⟨⟨x,rfl,t,y,rfl⟩,hb3,hs3⟩;have N3:=SA.num.but hb3 n3;have d3c:=N3.cell (show i < 5 by omega);have d3f:=N3.free i;have P3:=((RowIs.new wr 409 2 (fun j=>if j=0 then .string sn else U6 m)).but hb3 (show ¬ wr.heap.size=rb by omega)).far (o:=w.heap.size+1) (by omega) i (U6 0);have p0:(w3.setCell ⟨w.heap.size+1,i,none⟩ (U6 0)).cell? (Ad wr.heap.size 0)=some (.string sn):=P3.cell (show 0 < 2 by omega);have R3:=(SA.res.but hb3 n1).far (o:=w.heap.size+1) (by omega) i (U6 0);have B3:=(SA.but.trans hb3).setCell (p:=⟨w.heap.size+1,i,none⟩) (Or.inr (zc _)) (U6 0))
      | (go_at_call 120;refine (ku _ _ ⟨_,_,rfl⟩ _).mono ?_;rintro e w4 ⟨⟨x,rfl,hx⟩,hb4⟩;have R4:=R3.below hb4 R3.lt;have B4:=B3.trans (But.below hb4))
      | (refine wpList_store_row rfl 43 (.tmp 2) (.tmp 39) rfl w.heap.size _ rfl rfl _ _ R4 infoAOp (by rw [rowOf_size];rfl) (by simp [Value.oneCell']) ?_))
     exact bodyPost_ret (ko Tryz.results279 _ _ w.heap.size 43 _ (0,0) _ _ rfl rfl (R4.setRow (op6 (I6 0) (U3 0) (U3 0) (U3 0) (U6 0) (I3 0))) Tryz.underlying43 rfl infoAOp) rfl (RPost.no HR2.out ⟨_,rfl,hx⟩ (B4.setRow (qb _) _))
    | some y=>
     obtain ⟨x,l2⟩:=y;have hxb:0≤x∧x≤m:=by have:=xz hrA.byt hv;exact ⟨this.1,this.2.1⟩
     rw [hv] at HV hR;have HV':Hid (Calls _ _ _ _ _):=HV;have HR2:Hid (R=_):=hR;clear HV hR
     go_wp2_with (first
      | (go_at_call 248;refine HV'.out.mono ?_;rintro e w3 ⟨⟨rfl,off3,cap3,hr3⟩,hb3,hs3⟩;have S3:=SA.read hb3 hr3 n1 n3 n5;have d3c:=S3.num.cell (show i < 5 by omega);have d3f:=S3.num.free i))
     go_roundw
     case rel=>exact ⟨i+1,vs++[x],l2,hlt,by go_num,by simp [hvs],vs_bound hvb hvs (by rw [hMi];exact hxb),S3.push hvs x n3 n4 n6,by
      rw [HR2.out]
      cases vsP (M.drop (i+1)) l2 with
      | none=>rfl
      | some z=>obtain ⟨xs,l3⟩:=z;simp⟩
     case measure=>simp [intOf];omega
   ·obtain rfl:i=M.length:=by omega
    rw [List.drop_length] at hR;have hR':R=some (opOf k vs,l1):=by rw [hR];simp [vsP]
    have HR3:Hid (R=some (opOf k vs,l1)):=hR';clear hR hR';have v0:=hvb 0;have v1:=hvb 1;have v2:=hvb 2;have v3:=hvb 3;have v4:=hvb 4;rw [HM.out] at v0 v1 v2 v3 v4;simp only [or_true,if_true,reduceIte,Nat.reduceEqDiff,or_self,true_and,or_false] at v0 v1 v2 v3 v4
    have v4':vs.getD 4 0≤1114111:=by
     have:=v4.2;split at this <;> omega
    have q0:wr.cell? ⟨w.heap.size+1,0,none⟩=some (U6 (vs.getD 0 0)):=S.num.cell (show 0 < 5 by omega);have q1:wr.cell? ⟨w.heap.size+1,1,none⟩=some (U6 (vs.getD 1 0)):=S.num.cell (show 1 < 5 by omega);have q2:wr.cell? ⟨w.heap.size+1,2,none⟩=some (U6 (vs.getD 2 0)):=S.num.cell (show 2 < 5 by omega);have q3:wr.cell? ⟨w.heap.size+1,3,none⟩=some (U6 (vs.getD 3 0)):=S.num.cell (show 3 < 5 by omega);have q4:wr.cell? ⟨w.heap.size+1,4,none⟩=some (U6 (vs.getD 4 0)):=S.num.cell (show 4 < 5 by omega);unfold opOf at HR3;generalize vs.getD 0 0=x0 at *;generalize vs.getD 1 0=x1 at *;generalize vs.getD 2 0=x2 at *;generalize vs.getD 3 0=x3 at *;generalize vs.getD 4 0=x4 at *;obtain ⟨v00,v01⟩:=v0;obtain ⟨v10,v11⟩:=v1;obtain ⟨v20,v21⟩:=v2;have v40:=v4.1;clear v4 v3;obtain ⟨offS,capS,hrS⟩:=S.rd;have hRes:=S.res;go_wp2_with (refine wpList_store_row rfl 43 (.tmp 2) (.tmp 61) rfl w.heap.size _ rfl rfl _ _ hRes infoAOp (by rw [rowOf_size];rfl) (by simp [Value.oneCell']) ?_);exact bodyPost_ret (ko Tryz.results279 _ _ w.heap.size 43 _ (0,0) _ _ rfl rfl (hRes.setRow (op6 (I6 k) (U3 x0) (U3 x1) (U3 x2) (U6 x3) (I3 x4))) Tryz.underlying43 rfl infoAOp) rfl (RPost.yes HR3.out rfl (hrS.setRow n1 n2 _) (S.but.setRow (qb _) _))
def opsOk (k lo hi:Int):Int→List Opn→Bool
 | _,[]=>true
 | p,o::os=>(o.ok&&(decide (k=5)||(decide (lo≤o.key)&&decide (o.key < hi))))&&(decide (p < o.key)&&opsOk k lo hi o.key os)
def nOk (k:Int) (n:Nat):Bool:=
 if k=1∨k=2 then decide (n=0) else if k=3 then decide (n=1) else if k=4 then decide (n≤4) else if k=5 then decide (1≤n)&&decide (n≤6) else false
def okFrm (f:Frm):Bool:=
 nOk f.kd f.ops.length&&(decide (f.kd=5→f.lo=0∧f.hi=0)&&(decide (1≤f.ss∧f.ss≤1073741823)&&(decide (f.kd≠1→f.d0=0∧f.d1=0∧f.d2=0)&&(decide (f.kd≠5→f.lo < f.hi∧f.hi≤1099511627776)&&opsOk f.kd f.lo f.hi (-1) f.ops))))
theorem opsOk_w {k lo hi:Int}:∀ (os:List Opn) (p:Int),opsOk k lo hi p os=true→(∀ o∈os,0≤o.rf)→∀ o∈os,OpW o:=by
 intro os
 induction os with
 | nil=>intro p _ _ o h;cases h
 | cons o os ih=>
  intro p h h0 x hx;unfold opsOk at h;simp only [qx] at h;rcases qu.1 hx with rfl | hx
  ·exact okOp_w h.1.1 (h0 _ (qy ..))
  ·exact ih _ h.2.2 (fun y hy=>h0 y (zb _ hy)) x hx
theorem okFrm_w {f:Frm} (h:okFrm f=true) (h0:0≤f.lo) (h1:∀ o∈f.ops,0≤o.rf):FrW f:=by
 obtain ⟨k,ss,lo,hi,a,b,c,os⟩:=f;unfold okFrm nOk at h;dsimp only at *;simp only [qx,decide_eq_true_eq] at h;obtain ⟨p1,p2,p3,p4,p5,p6⟩:=h
 have hn:(1≤k∧k≤5)∧os.length < 256∧(k≤2→os=[]):=by
  split at p1
  ·simp only [decide_eq_true_eq] at p1;exact ⟨by omega,by omega,fun _=>jm p1⟩
  ·split at p1
   ·simp only [decide_eq_true_eq] at p1;exact ⟨by omega,by omega,fun _=>by omega⟩
   ·split at p1
    ·simp only [decide_eq_true_eq] at p1;exact ⟨by omega,by omega,fun _=>by omega⟩
    ·split at p1
     ·simp only [qx,decide_eq_true_eq] at p1;exact ⟨by omega,by omega,fun _=>by omega⟩
     ·cases p1
 refine ⟨hn.1,by dsimp only;omega,⟨h0,?_,fun e=>(p2 e).1⟩,⟨?_,?_,fun e=>(p2 e).2⟩,p4,hn.2,opsOk_w os _ p6 h1⟩
 ·dsimp only;by_cases e:k=5
  ·have:=p2 e;omega
  ·have:=p5 e;omega
 ·dsimp only;by_cases e:k=5
  ·have:=p2 e;omega
  ·have:=p5 e;omega
 ·dsimp only;by_cases e:k=5
  ·have:=p2 e;omega
  ·have:=p5 e;omega
def preK (os:List Opn) (i:Nat):Int:=if i=0 then -1 else (os[i-1]?.map Opn.key).getD 0
theorem opsOk_step (k lo hi:Int) (os:List Opn) (h:i < os.length):opsOk k lo hi (preK os i) (os.drop i)=((os[i].ok&&(decide (k=5)||(decide (lo≤os[i].key)&&decide (os[i].key < hi))))&&(decide (preK os i < os[i].key)&&opsOk k lo hi (preK os (i+1)) (os.drop (i+1)))):=by
 rw [yw h,opsOk];have:preK os (i+1)=os[i].key:=by unfold preK;rw [if_neg (by omega),Nat.add_sub_cancel,qk h];rfl
 rw [this]
theorem op6N {w W:World} {c1 c2 c3:Value} (hb:Bel W w3) (hW:W=w.alloc (.cells #[c0,c1,c2,c3,c4,c5] 43)):w3.cell? (Ad w.heap.size 0)=some c0∧w3.cell? (Ad w.heap.size 1)=some c1∧w3.cell? (Ad w.heap.size 2)=some c2∧w3.cell? (Ad w.heap.size 3)=some c3∧w3.cell? (Ad w.heap.size 4)=some c4∧w3.cell? (Ad w.heap.size 5)=some c5:=by
 subst hW;have k:∀ j v,(#[c0,c1,c2,c3,c4,c5])[j]?=some v→w3.cell? (Ad w.heap.size j)=some v:=fun j v h=>(hb.cell (p:=(Ad w.heap.size j)) (by simp)).trans ((cell_of_row _ _ _ _ _ _ (heap_alloc_new w _)).trans h);exact ⟨k 0 _ rfl,k 1 _ rfl,k 2 _ rfl,k 3 _ rfl,k 4 _ rfl,k 5 _ rfl⟩
theorem opsFault_any (k ss lo hi d0 d1 d2:Int) (a:Option Addr) (cap:Nat) (os:List Opn) (hk:1≤k∧k≤5) (hn:os.length≤6) (hT:∀ o∈os,OpT o) (w:World) (hS:Sents w) (hT10:Tens w) (hO:OpsIs w a os) :
  Cs 243 #[.agg #[I6 k,U3 ss,U6 lo,U6 hi,U8 d0,U8 d1,U8 d2,.slice a os.length cap]] w fun e w'=>∃ x,e=.returned x∧(opsOk k lo hi (-1) os=true→x=.nilIface)∧(opsOk k lo hi (-1) os=false→Err x)∧Bel w w':=by
 have hz:Bel w (w.alloc (.cells #[I6 k,U3 ss,U6 lo,U6 hi,U8 d0,U8 d1,U8 d2,.slice a os.length cap] 58)):=(qj _ _).alloc (qb _) _;have q0:(w.alloc (.cells #[I6 k,U3 ss,U6 lo,U6 hi,U8 d0,U8 d1,U8 d2,.slice a os.length cap] 58)).cell? (Ad w.heap.size 0)=some (I6 k):=(cell_of_row _ _ _ _ _ _ (heap_alloc_new w _)).trans rfl;have q2:(w.alloc (.cells #[I6 k,U3 ss,U6 lo,U6 hi,U8 d0,U8 d1,U8 d2,.slice a os.length cap] 58)).cell? (Ad w.heap.size 2)=some (U6 lo):=(cell_of_row _ _ _ _ _ _ (heap_alloc_new w _)).trans rfl;have q3:(w.alloc (.cells #[I6 k,U3 ss,U6 lo,U6 hi,U8 d0,U8 d1,U8 d2,.slice a os.length cap] 58)).cell? (Ad w.heap.size 3)=some (U6 hi):=(cell_of_row _ _ _ _ _ _ (heap_alloc_new w _)).trans rfl;have q7:(w.alloc (.cells #[I6 k,U3 ss,U6 lo,U6 hi,U8 d0,U8 d1,U8 d2,.slice a os.length cap] 58)).cell? (Ad w.heap.size 7)=some (.slice a os.length cap):=(cell_of_row _ _ _ _ _ _ (heap_alloc_new w _)).trans rfl;have hsz:(w.alloc (.cells #[I6 k,U3 ss,U6 lo,U6 hi,U8 d0,U8 d1,U8 d2,.slice a os.length cap] 58)).heap.size=w.heap.size+1:=by simp
 have HT:Hid (∀ o∈os,OpT o):=hT;have HS:Hid (Sents w∧Tens w∧OpsIs w a os):=⟨hS,hT10,hO⟩;have hstep:∀ i (h:i < os.length),opsOk k lo hi (preK os i) (os.drop i)=_:=fun i h=>opsOk_step k lo hi os h;have HST:Hid (∀ i (h:i < os.length),opsOk k lo hi (preK os i) (os.drop i)=_):=hstep;clear hT hS hT10 hO hstep;go_enter Tryz.func243,Tryz.ntmps243;go_wp2_with fail;generalize hW:(w.alloc (.cells #[I6 k,U3 ss,U6 lo,U6 hi,U8 d0,U8 d1,U8 d2,.slice a os.length cap] 58))=W at *;go_loopw [11] (fun iv wr=>∃ i:Nat,i≤os.length∧iv=I6 i∧opsOk k lo hi (-1) os=opsOk k lo hi (preK os i) (os.drop i)∧Bel W wr) (fun iv _=>os.length-(intOf iv).toNat)
 case atStart=>exact ⟨0,qs _,rfl,rfl,qj _ _⟩
 case round=>
  obtain ⟨i,hi',rfl,hok,hbl⟩:=hrel;have hB:=hz.trans (hbl.mono (by omega));by_cases hlt:i < os.length
  ·have li:(i:Int) < (os.length:Int):=by omega
   obtain ⟨hS,hT10,hO⟩:=HS.out;have hTi:=HT.out os[i] (qn hlt);rw [HST.out i hlt] at hok;rcases hO with rfl | ⟨g,off,rfl,hO⟩
   ·cases hlt
   have hO1:=hO.below hB;obtain ⟨c0,c1,c2,c3,c4,c5⟩:=hO1.cells hlt;have hpk:0 < i→∃ o',os[i-1]?=some o'∧preK os i=o'.key:=fun h=>⟨os[i-1],qk (by omega),by unfold preK;rw [if_neg (by omega),qk (by omega)];rfl⟩;generalize hoi:os[i]=oi at *;obtain ⟨kd,cl,ck,st,rf,ch⟩:=oi;obtain ⟨t0,t1,t2,t3,t4,t5⟩:=hTi;dsimp only at c0 c1 c2 c3 c4 c5 t0 t1 t2 t3 t4 t5;have hA:Bel w (wr.alloc (.cells #[I6 kd,U3 cl,U3 ck,U3 st,U6 rf,I3 ch] 43)):=hB.alloc hB.size _;have hAW:Bel W (wr.alloc (.cells #[I6 kd,U3 cl,U3 ck,U3 st,U6 rf,I3 ch] 43)):=hbl.alloc hbl.size _;have hi6:(i:Int)≤6:=by omega
   have Hok:Hid (opsOk k lo hi (-1) os=_):=hok;have HE:Hid (Sents w∧Tens w∧OpsAt w g off os):=⟨hS,hT10,hO⟩;have HP:Hid (0 < i→∃ o',os[i-1]?=some o'∧preK os i=o'.key):=hpk;have hwl:w.heap.size < W.heap.size:=by omega
   have hit:∀ W',Bel w W'→Cs 278 #[I6 i] W' fun e w'=>(∃ s,e=.returned (.string s))∧Bel W' w':=fun W' hb=>itoa_any i (by omega) (by omega) W' (HE.out.2.1.below hb);have Hit:Hid (∀ W',Bel w W'→Cs 278 #[I6 i] W' fun e w'=>(∃ s,e=.returned (.string s))∧Bel W' w'):=hit;have hro:∀ W',Bel w W'→Cs 92 #[.agg #[I6 kd,U3 cl,U3 ck,U3 st,U6 rf,I3 ch]] W' fun e w'=>∃ x,e=.returned x∧(okOp kd cl ck st rf ch=true→x=.nilIface)∧(okOp kd cl ck st rf ch=false→Err x)∧Bel W' w':=fun W' hb=>rightOp_any kd cl ck st rf ch t1 t2 t4.1 t4.2 W' (HE.out.1.below hb);have Hro:Hid (∀ W',Bel w W'→Cs 92 #[.agg #[I6 kd,U3 cl,U3 ck,U3 st,U6 rf,I3 ch]] W' fun e w'=>∃ x,e=.returned x∧(okOp kd cl ck st rf ch=true→x=.nilIface)∧(okOp kd cl ck st rf ch=false→Err x)∧Bel W' w'):=hro;have eR:Opn.ok ⟨kd,cl,ck,st,rf,ch⟩=okOp kd cl ck st rf ch:=rfl;rw [eR] at hok;have eK:Opn.key ⟨kd,cl,ck,st,rf,ch⟩=cl*1048576+ck:=rfl;rw [eK] at hok;clear hS hT10 hO hpk hit hro Hok eR eK hO1;generalize okOp kd cl ck st rf ch=R at *;have Hok:Hid (opsOk k lo hi (-1) os=_):=hok;clear hok;cases R
   ·go_wp2_with (first
     | (go_at_call 278;refine (Hit.out _ hA).mono ?_;rintro e w1 ⟨⟨s,rfl⟩,hb1⟩;obtain ⟨y0,y1,y2,y3,y4,y5⟩:=op6N hb1 rfl;have hA1:=hA.trans (hb1.mono hA.size))
     | (go_at_call 92;refine (Hro.out _ hA1).mono ?_;rintro e w2 ⟨x,rfl,-,hx,hb2⟩;obtain ⟨t,y,rfl⟩:=hx (by trivial);have hA2:=hA1.trans (hb2.mono hA1.size))
     | (go_at_call 120;refine (ku _ _ ⟨_,_,rfl⟩ _).mono ?_;rintro e w3 ⟨⟨x,rfl,hx3⟩,hb3⟩))
    go_ret;exact ⟨_,rfl,fun h=>absurd (Hok.out.symm.trans h) (by simp),fun _=>hx3,hA2.trans (hb3.mono hA2.size)⟩
   ·rcases Classical.em (k=5) with k5 | k5
    ·subst k5;have Hhr:Hid (∀ W,Cs 182 #[I6 5] W fun e w'=>e=.returned (.bool false)∧w'=W):=xn 5
     have HN:Hid (preK os i < cl*1048576+ck→opsOk 5 lo hi (-1) os=opsOk 5 lo hi (preK os (i+1)) (os.drop (i+1))):=by
      intro h;rw [Hok.out,decide_eq_true h];simp
     by_cases hi0:i=0
     ·have l0:¬ (0:Int) < (i:Int):=by omega
      have Hi0:Hid (i=0):=hi0;clear hi0
      go_wp2_with (first
       | (go_at_call 278;refine (Hit.out _ hA).mono ?_;rintro e w1 ⟨⟨s,rfl⟩,hb1⟩;obtain ⟨y0,y1,y2,y3,y4,y5⟩:=op6N hb1 rfl;have hA1:=hA.trans (hb1.mono hA.size))
       | (go_at_call 92;refine (Hro.out _ hA1).mono ?_;rintro e w2 ⟨x,rfl,hx,-,hb2⟩;obtain rfl:=hx (by trivial);have hA2:=hA1.trans (hb2.mono hA1.size);obtain ⟨x0,x1,x2,x3,x4,x5⟩:=op6N (hb1.trans (hb2.mono hb1.size)) rfl)
       | (go_at_call 93;refine (kz _ _ _ _ _ _ t1 t2 _).mono ?_;rintro e w3 ⟨rfl,hb3⟩;have hA3:=hA2.trans (hb3.mono hA2.size);have hW3:=hAW.trans ((hb1.trans ((hb2.trans (hb3.mono hb2.size)).mono hb1.size)).mono hAW.size);have z0:=(hW3.cell hwl).trans q0;have z2:=(hW3.cell hwl).trans q2;have z3:=(hW3.cell hwl).trans q3;have z7:=(hW3.cell hwl).trans q7;obtain ⟨⟨bB,tB⟩,-,⟨bO,tO⟩,-,-,-,-,-,-⟩:=HE.out.1.below hA3)
       | (go_at_call 182;refine (Hhr.out _).mono ?_;rintro e w4 ⟨rfl,rfl⟩)
       | (go_at_call 120;refine (ku _ _ ⟨_,_,rfl⟩ _).mono ?_;rintro e w5 ⟨⟨x,rfl,hx5⟩,hb5⟩))
      go_roundw
      case rel=>exact ⟨i+1,hlt,by go_num,HN.out (by have:=Hi0.out;subst this;show (-1:Int) < _;have:=t1.1;have:=t2.1;omega),hW3⟩
      case measure=>simp [intOf];omega
     ·have l0:(0:Int) < (i:Int):=by omega
      obtain ⟨j,rfl⟩:∃ j,i=j+1:=⟨i-1,by omega⟩;have hj:j < os.length:=by omega
      obtain ⟨-,u1,u2,-,-,-⟩:=HT.out os[j] (qn hj);obtain ⟨P,hP⟩:∃ P,os[j].cl*1048576+os[j].ck=P:=⟨_,rfl⟩;have hpk:preK os (j+1)=P:=by unfold preK;rw [if_neg (by omega),Nat.add_sub_cancel,qk hj];exact hP
      have HPk:Hid (os[j].cl*1048576+os[j].ck=P):=hP;rw [hpk] at Hok HN;clear hP hpk;rcases jg P (cl*1048576+ck) with hlt2 | hle2
      ·have hlt2':¬ cl*1048576+ck≤P:=by omega
       go_wp2_with (first
        | (go_at_call 93;have hq:=v0;clear hq;refine (kz _ _ _ _ _ _ u1 u2 _).mono ?_;rw [HPk.out];rintro e w6 ⟨rfl,hb6⟩;have hA6:=hA3.trans (hb6.mono hA3.size);obtain ⟨⟨bB6,tB6⟩,-,⟨bO6,tO6⟩,-,-,-,-,-,-⟩:=HE.out.1.below hA6;have hW6:=hW3.trans (hb6.mono hW3.size))
        | (go_at_call 278;refine (Hit.out _ hA).mono ?_;rintro e w1 ⟨⟨s,rfl⟩,hb1⟩;obtain ⟨y0,y1,y2,y3,y4,y5⟩:=op6N hb1 rfl;have hA1:=hA.trans (hb1.mono hA.size))
        | (go_at_call 92;refine (Hro.out _ hA1).mono ?_;rintro e w2 ⟨x,rfl,hx,-,hb2⟩;obtain rfl:=hx (by trivial);have hA2:=hA1.trans (hb2.mono hA1.size);obtain ⟨x0,x1,x2,x3,x4,x5⟩:=op6N (hb1.trans (hb2.mono hb1.size)) rfl)
        | (go_at_call 93;refine (kz _ _ _ _ _ _ t1 t2 _).mono ?_;rintro e w3 ⟨rfl,hb3⟩;have hA3:=hA2.trans (hb3.mono hA2.size);have hW3:=hAW.trans ((hb1.trans ((hb2.trans (hb3.mono hb2.size)).mono hb1.size)).mono hAW.size);have z0:=(hW3.cell hwl).trans q0;have z2:=(hW3.cell hwl).trans q2;have z3:=(hW3.cell hwl).trans q3;have z7:=(hW3.cell hwl).trans q7;obtain ⟨⟨bB,tB⟩,-,⟨bO,tO⟩,-,-,-,-,-,-⟩:=HE.out.1.below hA3;obtain ⟨v0,v1,v2,v3,v4,v5⟩:=(HE.out.2.2.below hA3).cells (i:=j) hj)
        | (go_at_call 182;refine (Hhr.out _).mono ?_;rintro e w4 ⟨rfl,rfl⟩)
        | (go_at_call 120;refine (ku _ _ ⟨_,_,rfl⟩ _).mono ?_;rintro e w5 ⟨⟨x,rfl,hx5⟩,hb5⟩))
       go_roundw
       case rel=>exact ⟨j+1+1,hlt,by go_num,HN.out hlt2,hW6⟩
       case measure=>simp [intOf];omega
      ·have hle2':¬ P < cl*1048576+ck:=by omega
       go_wp2_with (first
        | (go_at_call 93;have hq:=v0;clear hq;refine (kz _ _ _ _ _ _ u1 u2 _).mono ?_;rw [HPk.out];rintro e w6 ⟨rfl,hb6⟩;have hA6:=hA3.trans (hb6.mono hA3.size);obtain ⟨⟨bB6,tB6⟩,-,⟨bO6,tO6⟩,-,-,-,-,-,-⟩:=HE.out.1.below hA6;have hW6:=hW3.trans (hb6.mono hW3.size))
        | (go_at_call 278;refine (Hit.out _ hA).mono ?_;rintro e w1 ⟨⟨s,rfl⟩,hb1⟩;obtain ⟨y0,y1,y2,y3,y4,y5⟩:=op6N hb1 rfl;have hA1:=hA.trans (hb1.mono hA.size))
        | (go_at_call 92;refine (Hro.out _ hA1).mono ?_;rintro e w2 ⟨x,rfl,hx,-,hb2⟩;obtain rfl:=hx (by trivial);have hA2:=hA1.trans (hb2.mono hA1.size);obtain ⟨x0,x1,x2,x3,x4,x5⟩:=op6N (hb1.trans (hb2.mono hb1.size)) rfl)
        | (go_at_call 93;refine (kz _ _ _ _ _ _ t1 t2 _).mono ?_;rintro e w3 ⟨rfl,hb3⟩;have hA3:=hA2.trans (hb3.mono hA2.size);have hW3:=hAW.trans ((hb1.trans ((hb2.trans (hb3.mono hb2.size)).mono hb1.size)).mono hAW.size);have z0:=(hW3.cell hwl).trans q0;have z2:=(hW3.cell hwl).trans q2;have z3:=(hW3.cell hwl).trans q3;have z7:=(hW3.cell hwl).trans q7;obtain ⟨⟨bB,tB⟩,-,⟨bO,tO⟩,-,-,-,-,-,-⟩:=HE.out.1.below hA3;obtain ⟨v0,v1,v2,v3,v4,v5⟩:=(HE.out.2.2.below hA3).cells (i:=j) hj)
        | (go_at_call 182;refine (Hhr.out _).mono ?_;rintro e w4 ⟨rfl,rfl⟩)
        | (go_at_call 120;refine (ku _ _ ⟨_,_,rfl⟩ _).mono ?_;rintro e w5 ⟨⟨x,rfl,hx5⟩,hb5⟩))
       go_ret;exact ⟨_,rfl,fun h=>absurd (Hok.out.symm.trans h) (by first | (simp [*];done) | (simp [*];intros;omega)),fun _=>hx5,hA6.trans (hb5.mono hA6.size)⟩
    ·skip
     have Hhr:Hid (∀ W,Cs 182 #[I6 k] W fun e w'=>e=.returned (.bool true)∧w'=W):=by
      have:=xn k;rw [decide_eq_true hk.1,decide_eq_true (show k≤4 by omega)] at this;exact this
     rcases jg (cl*1048576+ck) lo with hlo | hlo
     ·have hlo':¬ lo≤cl*1048576+ck:=by omega
      go_wp2_with (first
       | (go_at_call 278;refine (Hit.out _ hA).mono ?_;rintro e w1 ⟨⟨s,rfl⟩,hb1⟩;obtain ⟨y0,y1,y2,y3,y4,y5⟩:=op6N hb1 rfl;have hA1:=hA.trans (hb1.mono hA.size))
       | (go_at_call 92;refine (Hro.out _ hA1).mono ?_;rintro e w2 ⟨x,rfl,hx,-,hb2⟩;obtain rfl:=hx (by trivial);have hA2:=hA1.trans (hb2.mono hA1.size);obtain ⟨x0,x1,x2,x3,x4,x5⟩:=op6N (hb1.trans (hb2.mono hb1.size)) rfl)
       | (go_at_call 93;refine (kz _ _ _ _ _ _ t1 t2 _).mono ?_;rintro e w3 ⟨rfl,hb3⟩;have hA3:=hA2.trans (hb3.mono hA2.size);have hW3:=hAW.trans ((hb1.trans ((hb2.trans (hb3.mono hb2.size)).mono hb1.size)).mono hAW.size);have z0:=(hW3.cell hwl).trans q0;have z2:=(hW3.cell hwl).trans q2;have z3:=(hW3.cell hwl).trans q3;have z7:=(hW3.cell hwl).trans q7;obtain ⟨⟨bB,tB⟩,-,⟨bO,tO⟩,-,-,-,-,-,-⟩:=HE.out.1.below hA3)
       | (go_at_call 182;refine (Hhr.out _).mono ?_;rintro e w4 ⟨rfl,rfl⟩)
       | (go_at_call 120;refine (ku _ _ ⟨_,_,rfl⟩ _).mono ?_;rintro e w5 ⟨⟨x,rfl,hx5⟩,hb5⟩))
      go_ret;exact ⟨_,rfl,fun h=>absurd (Hok.out.symm.trans h) (by first | (simp [*];done) | (simp [*];intros;omega)),fun _=>hx5,hA3.trans (hb5.mono hA3.size)⟩
     ·have hlo':¬ cl*1048576+ck < lo:=by omega
      rcases jg (cl*1048576+ck) hi with hhi | hhi
      ·have hhi':¬ hi≤cl*1048576+ck:=by omega
       have HN:Hid (preK os i < cl*1048576+ck→opsOk k lo hi (-1) os=opsOk k lo hi (preK os (i+1)) (os.drop (i+1))):=by
        intro h;rw [Hok.out,decide_eq_true h,decide_eq_true hlo,decide_eq_true hhi];simp
       by_cases hi0:i=0
       ·have l0:¬ (0:Int) < (i:Int):=by omega
        have Hi0:Hid (i=0):=hi0;clear hi0
        go_wp2_with (first
         | (go_at_call 278;refine (Hit.out _ hA).mono ?_;rintro e w1 ⟨⟨s,rfl⟩,hb1⟩;obtain ⟨y0,y1,y2,y3,y4,y5⟩:=op6N hb1 rfl;have hA1:=hA.trans (hb1.mono hA.size))
         | (go_at_call 92;refine (Hro.out _ hA1).mono ?_;rintro e w2 ⟨x,rfl,hx,-,hb2⟩;obtain rfl:=hx (by trivial);have hA2:=hA1.trans (hb2.mono hA1.size);obtain ⟨x0,x1,x2,x3,x4,x5⟩:=op6N (hb1.trans (hb2.mono hb1.size)) rfl)
         | (go_at_call 93;refine (kz _ _ _ _ _ _ t1 t2 _).mono ?_;rintro e w3 ⟨rfl,hb3⟩;have hA3:=hA2.trans (hb3.mono hA2.size);have hW3:=hAW.trans ((hb1.trans ((hb2.trans (hb3.mono hb2.size)).mono hb1.size)).mono hAW.size);have z0:=(hW3.cell hwl).trans q0;have z2:=(hW3.cell hwl).trans q2;have z3:=(hW3.cell hwl).trans q3;have z7:=(hW3.cell hwl).trans q7;obtain ⟨⟨bB,tB⟩,-,⟨bO,tO⟩,-,-,-,-,-,-⟩:=HE.out.1.below hA3)
         | (go_at_call 182;refine (Hhr.out _).mono ?_;rintro e w4 ⟨rfl,rfl⟩)
         | (go_at_call 120;refine (ku _ _ ⟨_,_,rfl⟩ _).mono ?_;rintro e w5 ⟨⟨x,rfl,hx5⟩,hb5⟩))
        go_roundw
        case rel=>exact ⟨i+1,hlt,by go_num,HN.out (by have:=Hi0.out;subst this;show (-1:Int) < _;have:=t1.1;have:=t2.1;omega),hW3⟩
        case measure=>simp [intOf];omega
       ·have l0:(0:Int) < (i:Int):=by omega
        obtain ⟨j,rfl⟩:∃ j,i=j+1:=⟨i-1,by omega⟩;have hj:j < os.length:=by omega
        obtain ⟨-,u1,u2,-,-,-⟩:=HT.out os[j] (qn hj);obtain ⟨P,hP⟩:∃ P,os[j].cl*1048576+os[j].ck=P:=⟨_,rfl⟩;have hpk:preK os (j+1)=P:=by unfold preK;rw [if_neg (by omega),Nat.add_sub_cancel,qk hj];exact hP
        have HPk:Hid (os[j].cl*1048576+os[j].ck=P):=hP;rw [hpk] at Hok HN;clear hP hpk;rcases jg P (cl*1048576+ck) with hlt2 | hle2
        ·have hlt2':¬ cl*1048576+ck≤P:=by omega
         go_wp2_with (first
          | (go_at_call 93;have hq:=v0;clear hq;refine (kz _ _ _ _ _ _ u1 u2 _).mono ?_;rw [HPk.out];rintro e w6 ⟨rfl,hb6⟩;have hA6:=hA3.trans (hb6.mono hA3.size);obtain ⟨⟨bB6,tB6⟩,-,⟨bO6,tO6⟩,-,-,-,-,-,-⟩:=HE.out.1.below hA6;have hW6:=hW3.trans (hb6.mono hW3.size))
          | (go_at_call 278;refine (Hit.out _ hA).mono ?_;rintro e w1 ⟨⟨s,rfl⟩,hb1⟩;obtain ⟨y0,y1,y2,y3,y4,y5⟩:=op6N hb1 rfl;have hA1:=hA.trans (hb1.mono hA.size))
          | (go_at_call 92;refine (Hro.out _ hA1).mono ?_;rintro e w2 ⟨x,rfl,hx,-,hb2⟩;obtain rfl:=hx (by trivial);have hA2:=hA1.trans (hb2.mono hA1.size);obtain ⟨x0,x1,x2,x3,x4,x5⟩:=op6N (hb1.trans (hb2.mono hb1.size)) rfl)
          | (go_at_call 93;refine (kz _ _ _ _ _ _ t1 t2 _).mono ?_;rintro e w3 ⟨rfl,hb3⟩;have hA3:=hA2.trans (hb3.mono hA2.size);have hW3:=hAW.trans ((hb1.trans ((hb2.trans (hb3.mono hb2.size)).mono hb1.size)).mono hAW.size);have z0:=(hW3.cell hwl).trans q0;have z2:=(hW3.cell hwl).trans q2;have z3:=(hW3.cell hwl).trans q3;have z7:=(hW3.cell hwl).trans q7;obtain ⟨⟨bB,tB⟩,-,⟨bO,tO⟩,-,-,-,-,-,-⟩:=HE.out.1.below hA3;obtain ⟨v0,v1,v2,v3,v4,v5⟩:=(HE.out.2.2.below hA3).cells (i:=j) hj)
          | (go_at_call 182;refine (Hhr.out _).mono ?_;rintro e w4 ⟨rfl,rfl⟩)
          | (go_at_call 120;refine (ku _ _ ⟨_,_,rfl⟩ _).mono ?_;rintro e w5 ⟨⟨x,rfl,hx5⟩,hb5⟩))
         go_roundw
         case rel=>exact ⟨j+1+1,hlt,by go_num,HN.out hlt2,hW6⟩
         case measure=>simp [intOf];omega
        ·have hle2':¬ P < cl*1048576+ck:=by omega
         go_wp2_with (first
          | (go_at_call 93;have hq:=v0;clear hq;refine (kz _ _ _ _ _ _ u1 u2 _).mono ?_;rw [HPk.out];rintro e w6 ⟨rfl,hb6⟩;have hA6:=hA3.trans (hb6.mono hA3.size);obtain ⟨⟨bB6,tB6⟩,-,⟨bO6,tO6⟩,-,-,-,-,-,-⟩:=HE.out.1.below hA6;have hW6:=hW3.trans (hb6.mono hW3.size))
          | (go_at_call 278;refine (Hit.out _ hA).mono ?_;rintro e w1 ⟨⟨s,rfl⟩,hb1⟩;obtain ⟨y0,y1,y2,y3,y4,y5⟩:=op6N hb1 rfl;have hA1:=hA.trans (hb1.mono hA.size))
          | (go_at_call 92;refine (Hro.out _ hA1).mono ?_;rintro e w2 ⟨x,rfl,hx,-,hb2⟩;obtain rfl:=hx (by trivial);have hA2:=hA1.trans (hb2.mono hA1.size);obtain ⟨x0,x1,x2,x3,x4,x5⟩:=op6N (hb1.trans (hb2.mono hb1.size)) rfl)
          | (go_at_call 93;refine (kz _ _ _ _ _ _ t1 t2 _).mono ?_;rintro e w3 ⟨rfl,hb3⟩;have hA3:=hA2.trans (hb3.mono hA2.size);have hW3:=hAW.trans ((hb1.trans ((hb2.trans (hb3.mono hb2.size)).mono hb1.size)).mono hAW.size);have z0:=(hW3.cell hwl).trans q0;have z2:=(hW3.cell hwl).trans q2;have z3:=(hW3.cell hwl).trans q3;have z7:=(hW3.cell hwl).trans q7;obtain ⟨⟨bB,tB⟩,-,⟨bO,tO⟩,-,-,-,-,-,-⟩:=HE.out.1.below hA3;obtain ⟨v0,v1,v2,v3,v4,v5⟩:=(HE.out.2.2.below hA3).cells (i:=j) hj)
          | (go_at_call 182;refine (Hhr.out _).mono ?_;rintro e w4 ⟨rfl,rfl⟩)
          | (go_at_call 120;refine (ku _ _ ⟨_,_,rfl⟩ _).mono ?_;rintro e w5 ⟨⟨x,rfl,hx5⟩,hb5⟩))
         go_ret;exact ⟨_,rfl,fun h=>absurd (Hok.out.symm.trans h) (by first | (simp [*];done) | (simp [*];intros;omega)),fun _=>hx5,hA6.trans (hb5.mono hA6.size)⟩
      ·have hhi':¬ cl*1048576+ck < hi:=by omega
       go_wp2_with (first
        | (go_at_call 278;refine (Hit.out _ hA).mono ?_;rintro e w1 ⟨⟨s,rfl⟩,hb1⟩;obtain ⟨y0,y1,y2,y3,y4,y5⟩:=op6N hb1 rfl;have hA1:=hA.trans (hb1.mono hA.size))
        | (go_at_call 92;refine (Hro.out _ hA1).mono ?_;rintro e w2 ⟨x,rfl,hx,-,hb2⟩;obtain rfl:=hx (by trivial);have hA2:=hA1.trans (hb2.mono hA1.size);obtain ⟨x0,x1,x2,x3,x4,x5⟩:=op6N (hb1.trans (hb2.mono hb1.size)) rfl)
        | (go_at_call 93;refine (kz _ _ _ _ _ _ t1 t2 _).mono ?_;rintro e w3 ⟨rfl,hb3⟩;have hA3:=hA2.trans (hb3.mono hA2.size);have hW3:=hAW.trans ((hb1.trans ((hb2.trans (hb3.mono hb2.size)).mono hb1.size)).mono hAW.size);have z0:=(hW3.cell hwl).trans q0;have z2:=(hW3.cell hwl).trans q2;have z3:=(hW3.cell hwl).trans q3;have z7:=(hW3.cell hwl).trans q7;obtain ⟨⟨bB,tB⟩,-,⟨bO,tO⟩,-,-,-,-,-,-⟩:=HE.out.1.below hA3)
        | (go_at_call 182;refine (Hhr.out _).mono ?_;rintro e w4 ⟨rfl,rfl⟩)
        | (go_at_call 120;refine (ku _ _ ⟨_,_,rfl⟩ _).mono ?_;rintro e w5 ⟨⟨x,rfl,hx5⟩,hb5⟩))
       go_ret;exact ⟨_,rfl,fun h=>absurd (Hok.out.symm.trans h) (by first | (simp [*];done) | (simp [*];intros;omega)),fun _=>hx5,hA3.trans (hb5.mono hA3.size)⟩
  ·obtain rfl:i=os.length:=by omega
   go_wp2;go_ret;exact ⟨_,rfl,fun _=>rfl,fun h=>absurd (hok.symm.trans h) (by rw [List.drop_length,opsOk];decide),hB⟩
def gOps (B:Nat) (os:List Opn) (w:World) (v:Value):Prop:=∃ s,v=.tuple #[s,.nilIface]∧OwnO w B s os
def bOps (v:Value):Prop:=∃ x,v=.tuple #[.slice none 0 0,x]∧Err x
theorem Rd.grown {w:World} {off:Nat} {row:Option Nat} (h:Rd w rb g off cap l) (hg:w.grownBy w' row) (h1:row≠some rb) (h2:row≠some g):Rd w' rb g off cap l:=by
 refine ⟨?_,h.room,h.big,fun i hi=>?_,h.byt,h.ne⟩
 ·unfold RowIs;rw [hg.block rb h.row.lt fun e=>h1 e.symm];exact h.row
 ·exact (qz (hg.block g (block_lt_of_cell (h.bytes i hi)) fun e=>h2 e.symm)).trans (h.bytes i hi)
theorem OwnO.but {w:World} {B:Nat} {os:List Opn} (h:OwnO w B v os) (hb:But (fun x=>x=rb) w w') (hB:rb < B):OwnO w' B v os:=
 kp h fun g hg=>hb.block g (h.lt g hg).2 (by have:=(h.lt g hg).1;omega)
theorem news6 (w:World) (A:Obj) (cs:List Value):∀ j u,cs[j]?=some u→((w.alloc A).alloc (.cells cs.toArray 43)).cell? ((⟨w.heap.size+1,0,none⟩:Addr).add j)=some u:=by
 have:=World.news_of_block (w:=(w.alloc A).alloc (.cells cs.toArray 43)) (heap_alloc_new (w.alloc A) (.cells cs.toArray 43));simpa using this
theorem rops_any (k:Int) (rb g off cap:Nat) (l:List Int) (w:World) (h:Rd w rb g off cap l) (hgl:g < w.heap.size) (hS:Sents w) (hT:Tens w) (hg9:15≤rb) :
  Cs 251 #[(pt rb 0),I6 k] w fun e w'=>RPost (opsP k l) (gOps w.heap.size) bOps rb g w e w':=by
 have hh:=hasOps_any k;have hrl:=h.row.lt;by_cases hk:3≤k∧k≤5
 ·rw [decide_eq_true hk.1,decide_eq_true hk.2] at hh;have Hh:Hid (∀ w,Calls _ _ _ w _):=hh;clear hh
  cases l with
  | nil=>
   have HR:Hid (opsP k []=none):=by unfold opsP;rw [if_pos hk];exact rfl
   generalize opsP k []=R at *;obtain ⟨-,-,-,-,-,⟨aS,sS⟩,-,-,-⟩:=id hS;go_enter Tryz.func251,Tryz.ntmps251
   go_wp2_with (first
    | (go_at_call 183;refine (Hh.out _).mono ?_;rintro e w1 ⟨rfl,hw1⟩;obtain rfl:=hw1.symm)
    | (go_at_call 247;refine (next_nil rb g _ _ _ h aS sS).mono ?_;rintro e w2 ⟨rfl,k2,rfl⟩))
   go_ret2;exact RPost.no HR.out ⟨_,rfl,_,_,rfl⟩ ((But.refl _ _).drewN _)
  | cons n l=>
   obtain ⟨b0,b1⟩:=h.byt.head;obtain ⟨c,rfl⟩:∃ c:Nat,n=c:=⟨n.toNat,by omega⟩;have HR:Hid (opsP k ((c:Int)::l)=osP c l):=by unfold opsP;rw [if_pos hk];exact rfl
   generalize opsP k ((c:Int)::l)=R at *;obtain ⟨io,hio,hzo0,hzo1,hzo2⟩:=info_parts infoO;go_enter Tryz.func251,Tryz.ntmps251
   go_wp2_with (first
    | (go_at_call 183;refine (Hh.out _).mono ?_;rintro e w1 ⟨rfl,hw1⟩;obtain rfl:=hw1.symm)
    | (go_at_call 247;refine (xg rb g _ _ c l _ h).mono ?_;rintro e w2 ⟨rfl,h2,hb2,hs2⟩))
   go_loopw [8,25] (fun vv iv wr=>∃ (i:Nat) (os1:List Opn) (l1:List Int),i≤c∧iv=I6 i∧os1.length=i∧OwnO wr w.heap.size vv os1∧(∃ off cap,Rd wr rb g off cap l1)∧But (fun x=>x=rb) w wr∧R=(osP (c-i) l1).map fun x=>(os1++x.1,x.2)) (fun _ iv _=>c-(intOf iv).toNat)
   case atStart=>exact ⟨0,[],l,qs _,rfl,rfl,World.ownsRow_nil _ _ _ _,⟨_,_,h2⟩,hb2,by rw [HR.out];simp⟩
   case round=>
    obtain ⟨i,os1,l1,hi,rfl,hos,hown,⟨off1,cap1,hr⟩,hbl,hR⟩:=hrel;by_cases hlt:i < c
    ·have li:(i:Int) < (c:Int):=by omega
     obtain ⟨m,hm⟩:∃ m,c-i=m+1:=⟨c-i-1,by omega⟩;rw [hm,osP] at hR;have hS1:=k8 hS hbl hg9;have hT1:=tens_but hT hbl hg9;have HV:=rop_any rb g off1 cap1 l1 wr hr (ql hgl hbl.size) hS1 hg9
     cases hv:oP l1 with
     | none=>
      rw [hv] at HV hR;have HV':Hid (Calls _ _ _ _ _):=HV;have HR2:Hid (R=none):=hR;clear HV hR
      go_wp2_with (first
       | (go_at_call 279;refine HV'.out.mono ?_;rintro e w3 ⟨v3,rfl,⟨x,rfl,t,y,rfl⟩,hb3⟩;have hb3':=(hbl.trans hb3).alloc (.cells oZ 43);have hT3:=tens_but hT hb3' hg9)
       | (go_at_call 278;refine (itoa_any i (by omega) (by omega) _ hT3).mono ?_;rintro e w4 ⟨⟨s4,rfl⟩,hb4⟩)
       | (go_at_call 120;refine (ku _ _ ⟨_,_,rfl⟩ _).mono ?_;rintro e w5 ⟨⟨x,rfl,hx⟩,hb5⟩))
      go_ret2;exact RPost.no HR2.out ⟨_,rfl,hx⟩ ((hb3'.trans (But.below hb4)).trans (But.below hb5))
     | some y=>
      obtain ⟨o,l2⟩:=y;rw [hv] at HV hR;have HV':Hid (Calls _ _ _ _ _):=HV;have HR2:Hid (R=_):=hR;clear HV hR
      go_wp2_with (first
       | (go_at_call 279;refine HV'.out.mono ?_;rintro e w3 ⟨v3,rfl,⟨rfl,off3,cap3,hr3⟩,hb3⟩;have hown3:=hown.but hb3 hrl;have hb3':=hbl.trans hb3;have hs3:=hb3'.size)
       | (at_builtin;refine wpList_append_own_at _ rfl (.tmp 39) (.tmp 41) 32 rfl w.heap.size 43 io (.agg oZ) 6 40 Tryz.underlying32 hio hzo0 hzo1 hzo2 rfl (by decide) _ os1.length (opCs os1) rfl ((zg hown3 _).alloc _) ⟨w3.heap.size+1,0,none⟩ 1 1 [I6 o.kd,U3 o.cl,U3 o.ck,U3 o.st,U6 o.rf,I3 o.ch] rfl rfl ?hn (by simp [Value.oneCell']) (by unfold maxLen;omega) (by omega) (by simp;omega) ?_;(case hn=>exact news6 w3 _ _);intro v6 w6 ho6 hg6 _ hat6))
      have ho6':OwnO w6 w.heap.size v6 (os1++[o]):=by unfold OwnO;rw [qe,opCs_app];exact ho6
      have hlt6:∀ y,Value.ownBlock _=some y→w.heap.size≤y:=fun y e=>(hown3.lt y e).1;have hbA:But (fun x=>x=rb) w ((w3.alloc (.cells (oC o) 43)).alloc (.cells (oC o) 43)):=(hb3'.alloc _).alloc _;have hb6:But (fun x=>x=rb) w w6:=⟨qi hbA.size hg6.size,hg6.os.trans hbA.os,hg6.tape.trans hbA.tape,hg6.output.trans hbA.output,fun b h1 h2=>(hg6.block b (ql h1 hbA.size) fun e=>by have:=hlt6 b e.symm;omega).trans (hbA.block b h1 h2)⟩;have hBl:Bel w3 ((w3.alloc (.cells (oC o) 43)).alloc (.cells (oC o) 43)):=((qj _ _).alloc (qb _) _).alloc (by simp) _;have hr6:=(hr3.but hBl).grown hg6 (fun e=>by have:=hlt6 rb e;omega) (fun e=>by have:=hlt6 g e;omega);go_roundw
      case rel=>exact ⟨i+1,os1++[o],l2,hlt,by go_num,by simp [hos],ho6',⟨_,_,hr6⟩,hb6,by
       rw [HR2.out,show c-(i+1)=m by omega]
       cases osP m l2 with
       | none=>rfl
       | some z=>obtain ⟨xs,l3⟩:=z;simp⟩
      case measure=>simp [intOf];omega
    ·obtain rfl:i=c:=by omega
     have hR':R=some (os1,l1):=by rw [hR,Nat.sub_self];simp [osP]
     have HR3:Hid (R=some (os1,l1)):=hR';clear hR hR';go_wp2_with fail;go_ret2;exact RPost.yes HR3.out ⟨_,rfl,hown⟩ hr hbl
 ·have e:(decide (3≤k)&&decide (k≤5))=false:=by simp;omega
  rw [e] at hh;have Hh:Hid (∀ w,Calls _ _ _ w _):=hh;have HR:Hid (opsP k l=some ([],l)):=by unfold opsP;rw [if_neg hk];exact rfl
  generalize opsP k l=R at *;clear hh;go_enter Tryz.func251,Tryz.ntmps251;go_wp2_with (go_at_call 183;refine (Hh.out _).mono ?_;rintro e w1 ⟨rfl,hw1⟩;obtain rfl:=hw1.symm);go_ret2;exact RPost.yes HR.out ⟨_,rfl,World.ownsRow_nil _ _ _ _⟩ h (But.refl _ _)
def rngOk (k lo hi:Int):Bool:=decide (k=5→lo=0∧hi=0)&&decide (k≠5→lo < hi∧hi≤1099511627776)
theorem rangeFault_any (k ss lo hi d0 d1 d2:Int) (v:Value) (hk:1≤k∧k≤5) (w:World) (hS:Sents w) :
  Cs 242 #[.agg #[I6 k,U3 ss,U6 lo,U6 hi,U8 d0,U8 d1,U8 d2,v]] w fun e w'=>∃ x,e=.returned x∧(rngOk k lo hi=true→x=.nilIface)∧(rngOk k lo hi=false→Err x)∧Bel w w':=by
 have hz:Bel w (w.alloc (.cells #[I6 k,U3 ss,U6 lo,U6 hi,U8 d0,U8 d1,U8 d2,v] 58)):=(qj _ _).alloc (qb _) _;obtain ⟨⟨aB,sB⟩,-,⟨aO,sO⟩,⟨aE,sE⟩,-,-,-,-,-⟩:=hS.below hz;by_cases k5:k=5
 ·subst k5;have hr:Hid (∀ W,Cs 182 #[I6 5] W fun e w'=>e=.returned (.bool false)∧w'=W):=xn 5;by_cases l0:lo=0
  ·subst l0;by_cases h0:hi=0
   ·subst h0;go_enter Tryz.func242,Tryz.ntmps242;go_wp2_with (go_at_call 182;refine (hr.out _).mono ?_;rintro e w1 ⟨rfl,rfl⟩);go_ret;exact ⟨_,rfl,fun _=>rfl,fun h=>absurd h (by simp [rngOk]),hz⟩
   ·have h0':(hi != 0)=true:=by simpa using h0
    go_enter Tryz.func242,Tryz.ntmps242;go_wp2_with (go_at_call 182;refine (hr.out _).mono ?_;rintro e w1 ⟨rfl,rfl⟩);go_ret;exact ⟨_,rfl,fun h=>absurd h (by simp [rngOk,h0]),fun _=>⟨_,_,rfl⟩,hz⟩
  ·have l0':(lo != 0)=true:=by simpa using l0
   go_enter Tryz.func242,Tryz.ntmps242;go_wp2_with (go_at_call 182;refine (hr.out _).mono ?_;rintro e w1 ⟨rfl,rfl⟩);go_ret;exact ⟨_,rfl,fun h=>absurd h (by simp [rngOk,l0]),fun _=>⟨_,_,rfl⟩,hz⟩
 ·have hr:Hid (∀ W,Cs 182 #[I6 k] W fun e w'=>e=.returned (.bool true)∧w'=W):=by
   have:=xn k;rw [decide_eq_true hk.1,decide_eq_true (show k≤4 by omega)] at this;exact this
  have e0:rngOk k lo hi=decide (lo < hi∧hi≤1099511627776):=by
   unfold rngOk;rw [decide_eq_true (fun h=>absurd h k5),Bool.true_and];simp [k5]
  have E0:Hid (rngOk k lo hi=decide (lo < hi∧hi≤1099511627776)):=e0;clear e0;rcases jg 1099511627776 hi with h1 | h1
  ·go_enter Tryz.func242,Tryz.ntmps242;go_wp2_with (go_at_call 182;refine (hr.out _).mono ?_;rintro e w1 ⟨rfl,rfl⟩);go_ret;exact ⟨_,rfl,fun h=>absurd (E0.out.symm.trans h) (by simp;omega),fun _=>⟨_,_,rfl⟩,hz⟩
  ·have h1':¬ 1099511627776 < hi:=by omega
   rcases jg lo hi with h2 | h2
   ·have h2':¬ hi≤lo:=by omega
    go_enter Tryz.func242,Tryz.ntmps242;go_wp2_with (go_at_call 182;refine (hr.out _).mono ?_;rintro e w1 ⟨rfl,rfl⟩);go_ret;exact ⟨_,rfl,fun _=>rfl,fun h=>absurd (E0.out.symm.trans h) (by simp;omega),hz⟩
   ·go_enter Tryz.func242,Tryz.ntmps242;go_wp2_with (go_at_call 182;refine (hr.out _).mono ?_;rintro e w1 ⟨rfl,rfl⟩);go_ret;exact ⟨_,rfl,fun h=>absurd (E0.out.symm.trans h) (by simp;omega),fun _=>⟨_,_,rfl⟩,hz⟩
theorem eqArrD (d:Nat) (a b c x y z:Int) (W:World):(Op.equalIn (d+1+1) 49 (.agg #[U8 a,U8 b,U8 c]) (.agg #[U8 x,U8 y,U8 z])).run Tryz.prog W=.ok (if a=x then if b=y then decide (c=z) else false else false) W:=by
 obtain ⟨i,hi,hs⟩:=yp.1 infoU8e;rw [run_equalIn_array W (d+1) _ _ Tryz.underlying49 hi,cellsU8];have p1:=partU8 #[U8 a,U8 b,U8 c] 0 _ rfl;have p2:=partU8 #[U8 a,U8 b,U8 c] 1 _ rfl;have p3:=partU8 #[U8 a,U8 b,U8 c] 2 _ rfl;have p4:=partU8 #[U8 x,U8 y,U8 z] 0 _ rfl;have p5:=partU8 #[U8 x,U8 y,U8 z] 1 _ rfl;have p6:=partU8 #[U8 x,U8 y,U8 z] 2 _ rfl;simp [Op.eqItems,List.range_succ,eqU8,p1,p2,p3,p4,p5,p6,Result.andThen];by_cases h1:a=x <;> by_cases h2:b=y <;> by_cases h3:c=z <;> simp [h1,h2,h3]
theorem eqArrG (a b c x y z:Int) (W:World):(Op.equalIn 10000 49 (.agg #[U8 a,U8 b,U8 c]) (.agg #[U8 x,U8 y,U8 z])).run Tryz.prog W=.ok (if a=x then if b=y then decide (c=z) else false else false) W:=eqArrD 9998 a b c x y z W
theorem nOk_eq (k:Int) (n:Nat):nOk k n=((decide (1≤k)&&decide (k≤5))&&(decide ((cntL k).1≤n)&&decide ((n:Int)≤(cntL k).2))):=by
 unfold nOk cntL;by_cases h1:k=1∨k=2
 ·rw [if_pos h1,if_neg (by omega),if_neg (by omega),if_neg (by omega),decide_eq_true (show 1≤k by omega),decide_eq_true (show k≤5 by omega)];simp
 ·rw [if_neg h1];by_cases h3:k=3
  ·subst h3;by_cases hn:n=1 <;> simp [hn] <;> omega
  ·by_cases h4:k=4
   ·subst h4;by_cases b:n≤4 <;> simp <;> omega
   ·by_cases h5:k=5
    ·subst h5;refine Bool.eq_iff_iff.2 ?_;simp;omega
    ·rw [if_neg h3,if_neg h4,if_neg h5];by_cases h:1≤k
     ·rw [decide_eq_false (show ¬ k≤5 by omega)];simp
     ·rw [decide_eq_false h];simp
def Frm.val (f:Frm) (v:Value):Value:=.agg #[I6 f.kd,U3 f.ss,U6 f.lo,U6 f.hi,U8 f.d0,U8 f.d1,U8 f.d2,v]
theorem okFrm_eq (f:Frm):okFrm f=(nOk f.kd f.ops.length&&((decide (1≤f.ss)&&decide (f.ss≤1073741823))&&(decide (f.kd≠1→f.d0=0∧f.d1=0∧f.d2=0)&&(rngOk f.kd f.lo f.hi&&opsOk f.kd f.lo f.hi (-1) f.ops)))):=by
 unfold okFrm rngOk;rw [Bool.decide_and];generalize opsOk f.kd f.lo f.hi (-1) f.ops=A;generalize nOk f.kd f.ops.length=B;generalize decide (f.kd=5→f.lo=0∧f.hi=0)=C;generalize decide (f.kd≠1→f.d0=0∧f.d1=0∧f.d2=0)=D;generalize decide (f.kd≠5→f.lo < f.hi∧f.hi≤1099511627776)=E;generalize decide (1≤f.ss)=G;generalize decide (f.ss≤1073741823)=H;cases A <;> cases B <;> cases C <;> cases D <;> cases E <;> cases G <;> cases H <;> rfl
theorem fr8N {w W:World} {c1 c2 c3 c6 c7:Value} (hb:Bel W w3) (hW:W=w.alloc (.cells #[c0,c1,c2,c3,c4,c5,c6,c7] 58)):w3.cell? (Ad w.heap.size 0)=some c0∧w3.cell? (Ad w.heap.size 1)=some c1∧w3.cell? (Ad w.heap.size 2)=some c2∧w3.cell? (Ad w.heap.size 3)=some c3∧w3.cell? (Ad w.heap.size 4)=some c4∧w3.cell? (Ad w.heap.size 5)=some c5∧w3.cell? (Ad w.heap.size 6)=some c6∧w3.cell? (Ad w.heap.size 7)=some c7:=by
 subst hW;have k:∀ j v,(#[c0,c1,c2,c3,c4,c5,c6,c7])[j]?=some v→w3.cell? (Ad w.heap.size j)=some v:=fun j v h=>(hb.cell (p:=(Ad w.heap.size j)) (by simp)).trans ((cell_of_row _ _ _ _ _ _ (heap_alloc_new w _)).trans h);exact ⟨k 0 _ rfl,k 1 _ rfl,k 2 _ rfl,k 3 _ rfl,k 4 _ rfl,k 5 _ rfl,k 6 _ rfl,k 7 _ rfl⟩
theorem frameFault_any (k ss lo hi d0 d1 d2:Int) (a:Option Addr) (cap:Nat) (os:List Opn) (hT:∀ o∈os,OpT o) (w:World) (hS:Sents w) (hT10:Tens w) (hO:OpsIs w a os) :
  Cs 180 #[.agg #[I6 k,U3 ss,U6 lo,U6 hi,U8 d0,U8 d1,U8 d2,.slice a os.length cap]] w fun e w'=>∃ x,e=.returned x∧(okFrm ⟨k,ss,lo,hi,d0,d1,d2,os⟩=true→x=.nilIface)∧(okFrm ⟨k,ss,lo,hi,d0,d1,d2,os⟩=false→Err x)∧Bel w w':=by
 have hz:Bel w (w.alloc (.cells #[I6 k,U3 ss,U6 lo,U6 hi,U8 d0,U8 d1,U8 d2,.slice a os.length cap] 58)):=(qj _ _).alloc (qb _) _;have hE:=okFrm_eq ⟨k,ss,lo,hi,d0,d1,d2,os⟩;rw [nOk_eq] at hE;dsimp only at hE;have hM6:(cntL k).2≤6:=by unfold cntL;split <;> (try split) <;> (try split) <;> decide
 have HM6:Hid ((cntL k).2≤6):=hM6;have HS0:Hid (Sents w∧Tens w∧OpsIs w a os):=⟨hS,hT10,hO⟩;obtain ⟨⟨aB,sB⟩,-,-,⟨aE,sE⟩,⟨aC,sC⟩,-,-,-,-⟩:=hS.below hz;have Hct:Hid (∀ W,Cs 241 #[I6 k] W fun e w'=>e=.returned (.tuple #[I6 (cntL k).1,I6 (cntL k).2])∧w'=W):=counts_any k;have Hss:Hid (∀ W,Cs 61 #[U3 ss] W fun e w'=>e=.returned (.bool (decide (1≤ss)&&decide (ss≤1073741823)))∧w'=W):=isSession_any ss;have Hrg:Hid (1≤k∧k≤5→Cs 242 #[.agg #[I6 k,U3 ss,U6 lo,U6 hi,U8 d0,U8 d1,U8 d2,.slice a os.length cap]] (w.alloc (.cells #[I6 k,U3 ss,U6 lo,U6 hi,U8 d0,U8 d1,U8 d2,.slice a os.length cap] 58)) fun e w'=>∃ x,e=.returned x∧(rngOk k lo hi=true→x=.nilIface)∧(rngOk k lo hi=false→Err x)∧Below (w.alloc (.cells #[I6 k,U3 ss,U6 lo,U6 hi,U8 d0,U8 d1,U8 d2,.slice a os.length cap] 58)).heap.size (w.alloc (.cells #[I6 k,U3 ss,U6 lo,U6 hi,U8 d0,U8 d1,U8 d2,.slice a os.length cap] 58)) w'):=fun hk=>rangeFault_any k ss lo hi d0 d1 d2 _ hk _ (hS.below hz);have Hop:Hid (1≤k∧k≤5→os.length≤6→∀ W,Bel w W→Cs 243 #[.agg #[I6 k,U3 ss,U6 lo,U6 hi,U8 d0,U8 d1,U8 d2,.slice a os.length cap]] W fun e w'=>∃ x,e=.returned x∧(opsOk k lo hi (-1) os=true→x=.nilIface)∧(opsOk k lo hi (-1) os=false→Err x)∧Bel W w'):=fun hk hn W hb=>opsFault_any k ss lo hi d0 d1 d2 a cap os hk hn hT W (HS0.out.1.below hb) (HS0.out.2.1.below hb) (HS0.out.2.2.below hb);generalize okFrm ⟨k,ss,lo,hi,d0,d1,d2,os⟩=R at *;generalize (decide (1≤ss)&&decide (ss≤1073741823))=SS at *;generalize rngOk k lo hi=RG at *;generalize opsOk k lo hi (-1) os=OP at *;generalize hL:(cntL k).1=L at *;generalize hM:(cntL k).2=M at *;have HE:Hid (R=_):=hE;clear hE hS hT10 hO hT hM6 hL hM;rcases jg k 1 with k1 | k1
 ·have k1':¬ 1≤k:=by omega
  go_enter Tryz.func180,Tryz.ntmps180
  go_wp2_with (first
   | (go_at_call 241;refine (Hct.out _).mono ?_;rintro e w1 ⟨rfl,rfl⟩)
   | (go_at_call 61;refine (Hss.out _).mono ?_;rintro e w1 ⟨rfl,rfl⟩)
   | (go_at_call 242;refine (Hrg.out HK).mono ?_;rintro e w2 ⟨x,rfl,HX1,HX2,hb2⟩;fail;have hz2:=hz.trans (hb2.mono (by simp));obtain ⟨r0,r1,r2,r3,r4,r5,r6,r7⟩:=fr8N hb2 rfl)
   | (go_at_call 243;refine (Hop.out HK HN6 _ hz2).mono ?_;rintro e w3 ⟨x,rfl,HY1,HY2,hb3⟩;fail;have hz3:=hz2.trans (hb3.mono hz2.size))
   | (go_at_call 120;refine (ku _ _ ⟨_,_,rfl⟩ _).mono ?_;rintro e w5 ⟨⟨x,rfl,hx5⟩,hb5⟩))
  go_ret;exact ⟨_,rfl,fun h=>absurd (HE.out.symm.trans h) (by first | (simp [*];done) | (simp [*];intros;omega) | (simp;omega)),fun _=>hx5,hz.trans (hb5.mono (by simp))⟩
 ·have k1':¬ k < 1:=by omega
  rcases jg 5 k with k2 | k2
  ·have k2':¬ k≤5:=by omega
   go_enter Tryz.func180,Tryz.ntmps180
   go_wp2_with (first
    | (go_at_call 241;refine (Hct.out _).mono ?_;rintro e w1 ⟨rfl,rfl⟩)
    | (go_at_call 61;refine (Hss.out _).mono ?_;rintro e w1 ⟨rfl,rfl⟩)
    | (go_at_call 242;refine (Hrg.out HK).mono ?_;rintro e w2 ⟨x,rfl,HX1,HX2,hb2⟩;fail;have hz2:=hz.trans (hb2.mono (by simp));obtain ⟨r0,r1,r2,r3,r4,r5,r6,r7⟩:=fr8N hb2 rfl)
    | (go_at_call 243;refine (Hop.out HK HN6 _ hz2).mono ?_;rintro e w3 ⟨x,rfl,HY1,HY2,hb3⟩;fail;have hz3:=hz2.trans (hb3.mono hz2.size))
    | (go_at_call 120;refine (ku _ _ ⟨_,_,rfl⟩ _).mono ?_;rintro e w5 ⟨⟨x,rfl,hx5⟩,hb5⟩))
   go_ret;exact ⟨_,rfl,fun h=>absurd (HE.out.symm.trans h) (by first | (simp [*];done) | (simp [*];intros;omega) | (simp;omega)),fun _=>hx5,hz.trans (hb5.mono (by simp))⟩
  ·have k2':¬ 5 < k:=by omega
   have HK:1≤k∧k≤5:=⟨k1,k2⟩;cases SS
   ·skip;go_enter Tryz.func180,Tryz.ntmps180
    go_wp2_with (first
     | (go_at_call 241;refine (Hct.out _).mono ?_;rintro e w1 ⟨rfl,rfl⟩)
     | (go_at_call 61;refine (Hss.out _).mono ?_;rintro e w1 ⟨rfl,rfl⟩)
     | (go_at_call 242;refine (Hrg.out HK).mono ?_;rintro e w2 ⟨x,rfl,HX1,HX2,hb2⟩;fail;have hz2:=hz.trans (hb2.mono (by simp));obtain ⟨r0,r1,r2,r3,r4,r5,r6,r7⟩:=fr8N hb2 rfl)
     | (go_at_call 243;refine (Hop.out HK HN6 _ hz2).mono ?_;rintro e w3 ⟨x,rfl,HY1,HY2,hb3⟩;fail;have hz3:=hz2.trans (hb3.mono hz2.size))
     | (go_at_call 120;refine (ku _ _ ⟨_,_,rfl⟩ _).mono ?_;rintro e w5 ⟨⟨x,rfl,hx5⟩,hb5⟩))
    go_ret;exact ⟨_,rfl,fun h=>absurd (HE.out.symm.trans h) (by first | (simp [*];done) | (simp [*];intros;omega) | (simp;omega)),fun _=>hx5,hz.trans (hb5.mono (by simp))⟩
   ·by_cases ka:k=1
    ·subst ka;rcases jg (os.length:Int) L with n1 | n1
     ·have n1':¬ L≤(os.length:Int):=by omega
      go_enter Tryz.func180,Tryz.ntmps180
      go_wp2_with (first
       | (go_at_call 241;refine (Hct.out _).mono ?_;rintro e w1 ⟨rfl,rfl⟩)
       | (go_at_call 61;refine (Hss.out _).mono ?_;rintro e w1 ⟨rfl,rfl⟩)
       | (go_at_call 242;refine (Hrg.out HK).mono ?_;rintro e w2 ⟨x,rfl,HX1,HX2,hb2⟩;fail;have hz2:=hz.trans (hb2.mono (by simp));obtain ⟨r0,r1,r2,r3,r4,r5,r6,r7⟩:=fr8N hb2 rfl)
       | (go_at_call 243;refine (Hop.out HK HN6 _ hz2).mono ?_;rintro e w3 ⟨x,rfl,HY1,HY2,hb3⟩;fail;have hz3:=hz2.trans (hb3.mono hz2.size))
       | (go_at_call 120;refine (ku _ _ ⟨_,_,rfl⟩ _).mono ?_;rintro e w5 ⟨⟨x,rfl,hx5⟩,hb5⟩))
      go_ret;exact ⟨_,rfl,fun h=>absurd (HE.out.symm.trans h) (by first | (simp [*];done) | (simp [*];intros;omega) | (simp;omega)),fun _=>hx5,hz.trans (hb5.mono (by simp))⟩
     ·have n1':¬ (os.length:Int) < L:=by omega
      rcases jg M (os.length:Int) with n2 | n2
      ·have n2':¬ (os.length:Int)≤M:=by omega
       go_enter Tryz.func180,Tryz.ntmps180
       go_wp2_with (first
        | (go_at_call 241;refine (Hct.out _).mono ?_;rintro e w1 ⟨rfl,rfl⟩)
        | (go_at_call 61;refine (Hss.out _).mono ?_;rintro e w1 ⟨rfl,rfl⟩)
        | (go_at_call 242;refine (Hrg.out HK).mono ?_;rintro e w2 ⟨x,rfl,HX1,HX2,hb2⟩;fail;have hz2:=hz.trans (hb2.mono (by simp));obtain ⟨r0,r1,r2,r3,r4,r5,r6,r7⟩:=fr8N hb2 rfl)
        | (go_at_call 243;refine (Hop.out HK HN6 _ hz2).mono ?_;rintro e w3 ⟨x,rfl,HY1,HY2,hb3⟩;fail;have hz3:=hz2.trans (hb3.mono hz2.size))
        | (go_at_call 120;refine (ku _ _ ⟨_,_,rfl⟩ _).mono ?_;rintro e w5 ⟨⟨x,rfl,hx5⟩,hb5⟩))
       go_ret;exact ⟨_,rfl,fun h=>absurd (HE.out.symm.trans h) (by first | (simp [*];done) | (simp [*];intros;omega) | (simp;omega)),fun _=>hx5,hz.trans (hb5.mono (by simp))⟩
      ·have n2':¬ M < (os.length:Int):=by omega
       have HN6:os.length≤6:=by have:=HM6.out;omega
       cases RG
       ·skip;go_enter Tryz.func180,Tryz.ntmps180
        go_wp2_with (first
         | (go_at_call 241;refine (Hct.out _).mono ?_;rintro e w1 ⟨rfl,rfl⟩)
         | (go_at_call 61;refine (Hss.out _).mono ?_;rintro e w1 ⟨rfl,rfl⟩)
         | (go_at_call 242;refine (Hrg.out HK).mono ?_;rintro e w2 ⟨x,rfl,HX1,HX2,hb2⟩;obtain ⟨t,y,rfl⟩:=HX2 (by trivial);have hz2:=hz.trans (hb2.mono (by simp));obtain ⟨r0,r1,r2,r3,r4,r5,r6,r7⟩:=fr8N hb2 rfl)
         | (go_at_call 243;refine (Hop.out HK HN6 _ hz2).mono ?_;rintro e w3 ⟨x,rfl,HY1,HY2,hb3⟩;fail;have hz3:=hz2.trans (hb3.mono hz2.size))
         | (go_at_call 120;refine (ku _ _ ⟨_,_,rfl⟩ _).mono ?_;rintro e w5 ⟨⟨x,rfl,hx5⟩,hb5⟩))
        go_ret;exact ⟨_,rfl,fun h=>absurd (HE.out.symm.trans h) (by first | (simp [*];done) | (simp [*];intros;omega) | (simp;omega)),fun _=>hx5,hz2.trans (hb5.mono hz2.size)⟩
       ·cases OP
        ·skip;go_enter Tryz.func180,Tryz.ntmps180
         go_wp2_with (first
          | (go_at_call 241;refine (Hct.out _).mono ?_;rintro e w1 ⟨rfl,rfl⟩)
          | (go_at_call 61;refine (Hss.out _).mono ?_;rintro e w1 ⟨rfl,rfl⟩)
          | (go_at_call 242;refine (Hrg.out HK).mono ?_;rintro e w2 ⟨x,rfl,HX1,HX2,hb2⟩;obtain rfl:=HX1 (by trivial);have hz2:=hz.trans (hb2.mono (by simp));obtain ⟨r0,r1,r2,r3,r4,r5,r6,r7⟩:=fr8N hb2 rfl)
          | (go_at_call 243;refine (Hop.out HK HN6 _ hz2).mono ?_;rintro e w3 ⟨x,rfl,HY1,HY2,hb3⟩;obtain ⟨t,y,rfl⟩:=HY2 (by trivial);have hz3:=hz2.trans (hb3.mono hz2.size))
          | (go_at_call 120;refine (ku _ _ ⟨_,_,rfl⟩ _).mono ?_;rintro e w5 ⟨⟨x,rfl,hx5⟩,hb5⟩))
         go_ret;exact ⟨_,rfl,fun h=>absurd (HE.out.symm.trans h) (by first | (simp [*];done) | (simp [*];intros;omega) | (simp;omega)),fun _=>hx5,hz3.trans (hb5.mono hz3.size)⟩
        ·skip;go_enter Tryz.func180,Tryz.ntmps180
         go_wp2_with (first
          | (go_at_call 241;refine (Hct.out _).mono ?_;rintro e w1 ⟨rfl,rfl⟩)
          | (go_at_call 61;refine (Hss.out _).mono ?_;rintro e w1 ⟨rfl,rfl⟩)
          | (go_at_call 242;refine (Hrg.out HK).mono ?_;rintro e w2 ⟨x,rfl,HX1,HX2,hb2⟩;obtain rfl:=HX1 (by trivial);have hz2:=hz.trans (hb2.mono (by simp));obtain ⟨r0,r1,r2,r3,r4,r5,r6,r7⟩:=fr8N hb2 rfl)
          | (go_at_call 243;refine (Hop.out HK HN6 _ hz2).mono ?_;rintro e w3 ⟨x,rfl,HY1,HY2,hb3⟩;obtain rfl:=HY1 (by trivial);have hz3:=hz2.trans (hb3.mono hz2.size))
          | (go_at_call 120;refine (in_nil _ _).mono ?_;rintro e w5 ⟨rfl,rfl⟩))
         go_ret;exact ⟨_,rfl,fun _=>rfl,fun h=>absurd (HE.out.symm.trans h) (by first | (simp [*];done) | (simp [*];intros;omega) | (simp;omega)),hz3⟩
    ·have ka':(k != 1)=true:=by simpa using ka
     have hD:=eqDigG;by_cases zd0:d0=0
     ·subst zd0;by_cases zd1:d1=0
      ·subst zd1;by_cases zd2:d2=0
       ·subst zd2;rcases jg (os.length:Int) L with n1 | n1
        ·have n1':¬ L≤(os.length:Int):=by omega
         go_enter Tryz.func180,Tryz.ntmps180
         go_wp2_with (first
          | (go_at_call 241;refine (Hct.out _).mono ?_;rintro e w1 ⟨rfl,rfl⟩)
          | (go_at_call 61;refine (Hss.out _).mono ?_;rintro e w1 ⟨rfl,rfl⟩)
          | (go_at_call 242;refine (Hrg.out HK).mono ?_;rintro e w2 ⟨x,rfl,HX1,HX2,hb2⟩;fail;have hz2:=hz.trans (hb2.mono (by simp));obtain ⟨r0,r1,r2,r3,r4,r5,r6,r7⟩:=fr8N hb2 rfl)
          | (go_at_call 243;refine (Hop.out HK HN6 _ hz2).mono ?_;rintro e w3 ⟨x,rfl,HY1,HY2,hb3⟩;fail;have hz3:=hz2.trans (hb3.mono hz2.size))
          | (go_at_call 120;refine (ku _ _ ⟨_,_,rfl⟩ _).mono ?_;rintro e w5 ⟨⟨x,rfl,hx5⟩,hb5⟩))
         go_ret;exact ⟨_,rfl,fun h=>absurd (HE.out.symm.trans h) (by first | (simp [*];done) | (simp [*];intros;omega) | (simp;omega)),fun _=>hx5,hz.trans (hb5.mono (by simp))⟩
        ·have n1':¬ (os.length:Int) < L:=by omega
         rcases jg M (os.length:Int) with n2 | n2
         ·have n2':¬ (os.length:Int)≤M:=by omega
          go_enter Tryz.func180,Tryz.ntmps180
          go_wp2_with (first
           | (go_at_call 241;refine (Hct.out _).mono ?_;rintro e w1 ⟨rfl,rfl⟩)
           | (go_at_call 61;refine (Hss.out _).mono ?_;rintro e w1 ⟨rfl,rfl⟩)
           | (go_at_call 242;refine (Hrg.out HK).mono ?_;rintro e w2 ⟨x,rfl,HX1,HX2,hb2⟩;fail;have hz2:=hz.trans (hb2.mono (by simp));obtain ⟨r0,r1,r2,r3,r4,r5,r6,r7⟩:=fr8N hb2 rfl)
           | (go_at_call 243;refine (Hop.out HK HN6 _ hz2).mono ?_;rintro e w3 ⟨x,rfl,HY1,HY2,hb3⟩;fail;have hz3:=hz2.trans (hb3.mono hz2.size))
           | (go_at_call 120;refine (ku _ _ ⟨_,_,rfl⟩ _).mono ?_;rintro e w5 ⟨⟨x,rfl,hx5⟩,hb5⟩))
          go_ret;exact ⟨_,rfl,fun h=>absurd (HE.out.symm.trans h) (by first | (simp [*];done) | (simp [*];intros;omega) | (simp;omega)),fun _=>hx5,hz.trans (hb5.mono (by simp))⟩
         ·have n2':¬ M < (os.length:Int):=by omega
          have HN6:os.length≤6:=by have:=HM6.out;omega
          cases RG
          ·skip;go_enter Tryz.func180,Tryz.ntmps180
           go_wp2_with (first
            | (go_at_call 241;refine (Hct.out _).mono ?_;rintro e w1 ⟨rfl,rfl⟩)
            | (go_at_call 61;refine (Hss.out _).mono ?_;rintro e w1 ⟨rfl,rfl⟩)
            | (go_at_call 242;refine (Hrg.out HK).mono ?_;rintro e w2 ⟨x,rfl,HX1,HX2,hb2⟩;obtain ⟨t,y,rfl⟩:=HX2 (by trivial);have hz2:=hz.trans (hb2.mono (by simp));obtain ⟨r0,r1,r2,r3,r4,r5,r6,r7⟩:=fr8N hb2 rfl)
            | (go_at_call 243;refine (Hop.out HK HN6 _ hz2).mono ?_;rintro e w3 ⟨x,rfl,HY1,HY2,hb3⟩;fail;have hz3:=hz2.trans (hb3.mono hz2.size))
            | (go_at_call 120;refine (ku _ _ ⟨_,_,rfl⟩ _).mono ?_;rintro e w5 ⟨⟨x,rfl,hx5⟩,hb5⟩))
           go_ret;exact ⟨_,rfl,fun h=>absurd (HE.out.symm.trans h) (by first | (simp [*];done) | (simp [*];intros;omega) | (simp;omega)),fun _=>hx5,hz2.trans (hb5.mono hz2.size)⟩
          ·cases OP
           ·skip;go_enter Tryz.func180,Tryz.ntmps180
            go_wp2_with (first
             | (go_at_call 241;refine (Hct.out _).mono ?_;rintro e w1 ⟨rfl,rfl⟩)
             | (go_at_call 61;refine (Hss.out _).mono ?_;rintro e w1 ⟨rfl,rfl⟩)
             | (go_at_call 242;refine (Hrg.out HK).mono ?_;rintro e w2 ⟨x,rfl,HX1,HX2,hb2⟩;obtain rfl:=HX1 (by trivial);have hz2:=hz.trans (hb2.mono (by simp));obtain ⟨r0,r1,r2,r3,r4,r5,r6,r7⟩:=fr8N hb2 rfl)
             | (go_at_call 243;refine (Hop.out HK HN6 _ hz2).mono ?_;rintro e w3 ⟨x,rfl,HY1,HY2,hb3⟩;obtain ⟨t,y,rfl⟩:=HY2 (by trivial);have hz3:=hz2.trans (hb3.mono hz2.size))
             | (go_at_call 120;refine (ku _ _ ⟨_,_,rfl⟩ _).mono ?_;rintro e w5 ⟨⟨x,rfl,hx5⟩,hb5⟩))
            go_ret;exact ⟨_,rfl,fun h=>absurd (HE.out.symm.trans h) (by first | (simp [*];done) | (simp [*];intros;omega) | (simp;omega)),fun _=>hx5,hz3.trans (hb5.mono hz3.size)⟩
           ·skip;go_enter Tryz.func180,Tryz.ntmps180
            go_wp2_with (first
             | (go_at_call 241;refine (Hct.out _).mono ?_;rintro e w1 ⟨rfl,rfl⟩)
             | (go_at_call 61;refine (Hss.out _).mono ?_;rintro e w1 ⟨rfl,rfl⟩)
             | (go_at_call 242;refine (Hrg.out HK).mono ?_;rintro e w2 ⟨x,rfl,HX1,HX2,hb2⟩;obtain rfl:=HX1 (by trivial);have hz2:=hz.trans (hb2.mono (by simp));obtain ⟨r0,r1,r2,r3,r4,r5,r6,r7⟩:=fr8N hb2 rfl)
             | (go_at_call 243;refine (Hop.out HK HN6 _ hz2).mono ?_;rintro e w3 ⟨x,rfl,HY1,HY2,hb3⟩;obtain rfl:=HY1 (by trivial);have hz3:=hz2.trans (hb3.mono hz2.size))
             | (go_at_call 120;refine (in_nil _ _).mono ?_;rintro e w5 ⟨rfl,rfl⟩))
            go_ret;exact ⟨_,rfl,fun _=>rfl,fun h=>absurd (HE.out.symm.trans h) (by first | (simp [*];done) | (simp [*];intros;omega) | (simp;omega)),hz3⟩
       ·have qd2:(d2==0)=false:=by simpa using zd2
        go_enter Tryz.func180,Tryz.ntmps180
        go_wp2_with (first
         | (go_at_call 241;refine (Hct.out _).mono ?_;rintro e w1 ⟨rfl,rfl⟩)
         | (go_at_call 61;refine (Hss.out _).mono ?_;rintro e w1 ⟨rfl,rfl⟩)
         | (go_at_call 242;refine (Hrg.out HK).mono ?_;rintro e w2 ⟨x,rfl,HX1,HX2,hb2⟩;fail;have hz2:=hz.trans (hb2.mono (by simp));obtain ⟨r0,r1,r2,r3,r4,r5,r6,r7⟩:=fr8N hb2 rfl)
         | (go_at_call 243;refine (Hop.out HK HN6 _ hz2).mono ?_;rintro e w3 ⟨x,rfl,HY1,HY2,hb3⟩;fail;have hz3:=hz2.trans (hb3.mono hz2.size))
         | (go_at_call 120;refine (ku _ _ ⟨_,_,rfl⟩ _).mono ?_;rintro e w5 ⟨⟨x,rfl,hx5⟩,hb5⟩))
        go_ret;exact ⟨_,rfl,fun h=>absurd (HE.out.symm.trans h) (by first | (simp [*];done) | (simp [*];intros;omega) | (simp;omega)),fun _=>hx5,hz.trans (hb5.mono (by simp))⟩
      ·have qd1:(d1==0)=false:=by simpa using zd1
       go_enter Tryz.func180,Tryz.ntmps180
       go_wp2_with (first
        | (go_at_call 241;refine (Hct.out _).mono ?_;rintro e w1 ⟨rfl,rfl⟩)
        | (go_at_call 61;refine (Hss.out _).mono ?_;rintro e w1 ⟨rfl,rfl⟩)
        | (go_at_call 242;refine (Hrg.out HK).mono ?_;rintro e w2 ⟨x,rfl,HX1,HX2,hb2⟩;fail;have hz2:=hz.trans (hb2.mono (by simp));obtain ⟨r0,r1,r2,r3,r4,r5,r6,r7⟩:=fr8N hb2 rfl)
        | (go_at_call 243;refine (Hop.out HK HN6 _ hz2).mono ?_;rintro e w3 ⟨x,rfl,HY1,HY2,hb3⟩;fail;have hz3:=hz2.trans (hb3.mono hz2.size))
        | (go_at_call 120;refine (ku _ _ ⟨_,_,rfl⟩ _).mono ?_;rintro e w5 ⟨⟨x,rfl,hx5⟩,hb5⟩))
       go_ret;exact ⟨_,rfl,fun h=>absurd (HE.out.symm.trans h) (by first | (simp [*];done) | (simp [*];intros;omega) | (simp;omega)),fun _=>hx5,hz.trans (hb5.mono (by simp))⟩
     ·have qd0:(d0==0)=false:=by simpa using zd0
      go_enter Tryz.func180,Tryz.ntmps180
      go_wp2_with (first
       | (go_at_call 241;refine (Hct.out _).mono ?_;rintro e w1 ⟨rfl,rfl⟩)
       | (go_at_call 61;refine (Hss.out _).mono ?_;rintro e w1 ⟨rfl,rfl⟩)
       | (go_at_call 242;refine (Hrg.out HK).mono ?_;rintro e w2 ⟨x,rfl,HX1,HX2,hb2⟩;fail;have hz2:=hz.trans (hb2.mono (by simp));obtain ⟨r0,r1,r2,r3,r4,r5,r6,r7⟩:=fr8N hb2 rfl)
       | (go_at_call 243;refine (Hop.out HK HN6 _ hz2).mono ?_;rintro e w3 ⟨x,rfl,HY1,HY2,hb3⟩;fail;have hz3:=hz2.trans (hb3.mono hz2.size))
       | (go_at_call 120;refine (ku _ _ ⟨_,_,rfl⟩ _).mono ?_;rintro e w5 ⟨⟨x,rfl,hx5⟩,hb5⟩))
      go_ret;exact ⟨_,rfl,fun h=>absurd (HE.out.symm.trans h) (by first | (simp [*];done) | (simp [*];intros;omega) | (simp;omega)),fun _=>hx5,hz.trans (hb5.mono (by simp))⟩
theorem rightFrame_any (k ss lo hi d0 d1 d2:Int) (a:Option Addr) (cap:Nat) (os:List Opn) (hT:∀ o∈os,OpT o) (w:World) (hS:Sents w) (hT10:Tens w) (hO:OpsIs w a os) :
  Cs 106 #[.agg #[I6 k,U3 ss,U6 lo,U6 hi,U8 d0,U8 d1,U8 d2,.slice a os.length cap]] w fun e w'=>∃ x,e=.returned x∧(okFrm ⟨k,ss,lo,hi,d0,d1,d2,os⟩=true→x=.nilIface)∧(okFrm ⟨k,ss,lo,hi,d0,d1,d2,os⟩=false→Ref w' 8 x)∧Bel w w':=by
 have hz:Bel w (w.alloc (.cells #[I6 k,U3 ss,U6 lo,U6 hi,U8 d0,U8 d1,U8 d2,.slice a os.length cap] 58)):=(qj _ _).alloc (qb _) _;have hF:=frameFault_any k ss lo hi d0 d1 d2 a cap os hT _ (hS.below hz) (hT10.below hz) (hO.below hz);have HF:Hid (Calls _ _ _ _ _):=hF;clear hF hT hS hT10 hO;generalize okFrm ⟨k,ss,lo,hi,d0,d1,d2,os⟩=R at *;cases R
 ·go_enter Tryz.func106,Tryz.ntmps106
  go_wp2_with (first
   | (go_at_call 180;refine HF.out.mono ?_;rintro e w1 ⟨x,rfl,-,hx,hb1⟩;obtain ⟨t,y,rfl⟩:=hx rfl)
   | (go_at_call 110;refine (refuse_err _ _ ⟨_,_,rfl⟩ _).mono ?_;rintro e w2 ⟨⟨x,rfl,hr⟩,hb2⟩))
  go_ret;have hb:=hz.trans (hb1.mono (by simp));exact ⟨_,rfl,fun h=>(by cases h),fun _=>hr,hb.trans (hb2.mono hb.size)⟩
 ·go_enter Tryz.func106,Tryz.ntmps106
  go_wp2_with (first
   | (go_at_call 180;refine HF.out.mono ?_;rintro e w1 ⟨x,rfl,hx,-,hb1⟩;obtain rfl:=hx rfl)
   | (go_at_call 110;refine (refuse_nil _ _).mono ?_;rintro e w2 ⟨rfl,rfl⟩))
  go_ret;exact ⟨_,rfl,fun _=>rfl,fun h=>(by cases h),hz.trans (hb1.mono (by simp))⟩
def fr8 (k s lo hi d0 d1 d2:Int) (v:Value):Nat→Value
 | 0=>I6 k
 | 1=>U3 s
 | 2=>U6 lo
 | 3=>U6 hi
 | 4=>U8 d0
 | 5=>U8 d1
 | 6=>U8 d2
 | _=>v
theorem vt:(Tryz.prog.info? 58).map (·.size)=some 8:=by kernel_rfl
theorem xj (k s lo hi d0 d1 d2:Int) (a:Option Addr) (n c:Nat):((rowOf 8 (fr8 k s lo hi d0 d1 d2 (.slice a n c))).all (·.oneCell'))=true:=by
 have e:rowOf 8 (fr8 k s lo hi d0 d1 d2 (.slice a n c))=#[I6 k,U3 s,U6 lo,U6 hi,U8 d0,U8 d1,U8 d2,.slice a n c]:=rfl;rw [e];simp [Value.oneCell']
structure FrS (w wr:World) (rb g:Nat) (f:Nat→Value) (l1:List Int):Prop where
 res:RowIs wr w.heap.size 58 8 (fr8 0 0 0 0 0 0 0 (.slice none 0 0))
 fb:RowIs wr (w.heap.size+1) 58 8 f
 rd:∃ off cap,Rd wr rb g off cap l1
 but:But (fun x=>x=rb) w wr
section
variable {w wr w2 : World} {rb g off cap : Nat} {f f' : Nat → Value} {l1 l2 : List Int}
theorem FrS.read (h:FrS w wr rb g f l1) (hb:But (fun x=>x=rb) wr w2) (hr:Rd w2 rb g off cap l2) (h1:w.heap.size≠rb) (h2:w.heap.size+1≠rb):FrS w w2 rb g f l2:=
 ⟨h.res.but hb h1,h.fb.but hb h2,⟨off,cap,hr⟩,h.but.trans hb⟩
theorem FrS.set (h:FrS w wr rb g f l1) (j:Nat) (v:Value) (h2:w.heap.size+1≠rb) (h3:w.heap.size+1≠g) (hf:∀ i,i < 8→(if i=j then v else f i)=f' i):FrS w (wr.setCell ⟨w.heap.size+1,j,none⟩ v) rb g f' l1:=by
 obtain ⟨off,cap,hr⟩:=h.rd;exact ⟨h.res.far (by omega) j v,(h.fb.set j v).congr hf,⟨off,cap,hr.set h2 h3 j v⟩,h.but.setCell (p:=⟨w.heap.size+1,j,none⟩) (Or.inr (zc _)) v⟩
theorem FrS.cells (h:FrS w wr rb g f l1):wr.cell? ⟨w.heap.size+1,0,none⟩=some (f 0)∧wr.cell? ⟨w.heap.size+1,1,none⟩=some (f 1)∧wr.cell? ⟨w.heap.size+1,2,none⟩=some (f 2)∧wr.cell? ⟨w.heap.size+1,3,none⟩=some (f 3)∧wr.cell? ⟨w.heap.size+1,4,none⟩=some (f 4)∧wr.cell? ⟨w.heap.size+1,5,none⟩=some (f 5)∧wr.cell? ⟨w.heap.size+1,6,none⟩=some (f 6)∧wr.cell? ⟨w.heap.size+1,7,none⟩=some (f 7):=
 ⟨h.fb.cell (by omega),h.fb.cell (by omega),h.fb.cell (by omega),h.fb.cell (by omega),h.fb.cell (by omega),h.fb.cell (by omega),h.fb.cell (by omega),h.fb.cell (by omega)⟩
end
structure ErS (w wr:World) (rb:Nat) (f:Nat→Value):Prop where
 res:∃ f0,RowIs wr w.heap.size 58 8 f0∧((rowOf 8 f0).all (·.oneCell'))=true
 fb:RowIs wr (w.heap.size+1) 58 8 f
 but:But (fun x=>x=rb) w wr
section
variable {w wr w2 : World} {rb g : Nat} {f : Nat → Value} {l1 : List Int}
theorem FrS.err (h:FrS w wr rb g f l1):ErS w wr rb f:=⟨⟨_,h.res,xj _ _ _ _ _ _ _ _ _ _⟩,h.fb,h.but⟩
theorem ErS.kept (h:ErS w wr rb f) (hb:Bel wr w2):ErS w w2 rb f:=by
 obtain ⟨f0,hr,ho⟩:=h.res;exact ⟨⟨f0,hr.below hb hr.lt,ho⟩,h.fb.below hb h.fb.lt,h.but.trans (But.below hb)⟩
theorem ErS.read (h:ErS w wr rb f) (hb:But (fun x=>x=rb) wr w2) (h1:w.heap.size≠rb) (h2:w.heap.size+1≠rb):ErS w w2 rb f:=by
 obtain ⟨f0,hr,ho⟩:=h.res;exact ⟨⟨f0,hr.but hb h1,ho⟩,h.fb.but hb h2,h.but.trans hb⟩
theorem ErS.drewN (h:ErS w wr rb f) (n:Nat):ErS w (wr.drewN n) rb f:=⟨h.res,h.fb,h.but.drewN n⟩
theorem ErS.drew (h:ErS w wr rb f):ErS w wr.drew rb f:=h.drewN 1
theorem ErS.put (h:ErS w wr rb f) (f0:Nat→Value) (h0:((rowOf 8 f0).all (·.oneCell'))=true):ErS w (wr.setRow w.heap.size (rowOf 8 f0)) rb f:=by
 obtain ⟨f1,hr,-⟩:=h.res;exact ⟨⟨f0,hr.setRow f0,h0⟩,h.fb.setRowOther (by omega) _,h.but.setRow (qb _) _⟩
theorem ErS.set {f':Nat→Value} (h:ErS w wr rb f) (j:Nat) (v:Value) (hf:∀ i,i < 8→(if i=j then v else f i)=f' i):ErS w (wr.setCell ⟨w.heap.size+1,j,none⟩ v) rb f':=by
 obtain ⟨f1,hr,ho⟩:=h.res;exact ⟨⟨f1,hr.far (by omega) j v,ho⟩,(h.fb.set j v).congr hf,h.but.setCell (p:=⟨w.heap.size+1,j,none⟩) (Or.inr (zc _)) v⟩
theorem ErS.cells (h:ErS w wr rb f):wr.cell? ⟨w.heap.size+1,0,none⟩=some (f 0)∧wr.cell? ⟨w.heap.size+1,1,none⟩=some (f 1)∧wr.cell? ⟨w.heap.size+1,2,none⟩=some (f 2)∧wr.cell? ⟨w.heap.size+1,3,none⟩=some (f 3)∧wr.cell? ⟨w.heap.size+1,4,none⟩=some (f 4)∧wr.cell? ⟨w.heap.size+1,5,none⟩=some (f 5)∧wr.cell? ⟨w.heap.size+1,6,none⟩=some (f 6)∧wr.cell? ⟨w.heap.size+1,7,none⟩=some (f 7):=
 ⟨h.fb.cell (by omega),h.fb.cell (by omega),h.fb.cell (by omega),h.fb.cell (by omega),h.fb.cell (by omega),h.fb.cell (by omega),h.fb.cell (by omega),h.fb.cell (by omega)⟩
end
end Go.Proofs.YtgccjefbedpmpaaGreatDoor

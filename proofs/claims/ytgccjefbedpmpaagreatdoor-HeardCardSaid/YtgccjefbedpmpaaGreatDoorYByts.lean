import Derived.Test.YtgccjefbedpmpaaGreatDoorYApp
import Derived.Lib.Strings
namespace Go.Proofs.YtgccjefbedpmpaaGreatDoor
section
open Go.RowKit
set_option maxRecDepth 100000
set_option maxHeartbeats 8000000
section
variable {w wr : World} {wd : Nat} {R : Nat → Int} {vP vH : Value} {F : Nat → Prop} {hs : List Nat} {hb : Nat} {vb vo vl : Value} {mk : Int} {j n1 n2 n3 : Nat} {vH' : Value} {hs' : List Nat} {g : Nat} {V1 V2 V3 : Value} {ls : List Value}
end
section
variable {w : World} {wd : Nat} {R : Nat → Int} {vP vH : Value} {F : Nat → Prop} {hs : List Nat} {hb : Nat} {m0 mk : Int} {vb vo vl : Value} {nb no nl : Nat} {xb xo xl : List Value}
end
end
section
open Go.RowKit
set_option maxRecDepth 100000
set_option maxHeartbeats 8000000
variable {n : Nat}
def padZ (s:ByteArray):Nat→ByteArray
 | 0=>s++⟨#[128]⟩
 | z+1=>padZ s z++⟨#[0]⟩
def padN (P:ByteArray) (n:Int):Nat→ByteArray
 | 0=>P
 | k+1=>padN P n k++strOfNums [n / 2 ^ (56-8*k) % 256]
theorem sch_congr {m m':Nat→Int} (h:∀ i,i<64→m i=m' i) (t:Nat):sch m t=sch m' t:=by
 induction t using Nat.strongRecOn with
 | _ t ih=>
  by_cases ht:t<16
  ·rw [sch_lt m ht,sch_lt m' ht];unfold wd0;rw [h (4*t) (by omega),h (4*t+1) (by omega),h (4*t+2) (by omega),h (4*t+3) (by omega)]
  ·rw [sch_ge m (by omega),sch_ge m' (by omega),ih (t-2) (by omega),ih (t-7) (by omega),ih (t-15) (by omega),ih (t-16) (by omega)]
def padM (s:ByteArray):ByteArray:=padN (padZ s (zer s.size)) ((s.size:Int)*8) 8
def nblk (S:Nat):Nat:=(S+1+zer S+8) / 64
def vbF:Nat→Nat→ByteArray
 | 0,n=>strOfNums [(n:Int)]
 | k+1,n=>if n<128 then strOfNums [(n:Int)] else strOfNums [128+(n:Int) % 128]++vbF k (n / 128)
theorem vbF_same:∀ k m n,n≤k→n≤m→vbF k n=vbF m n:=by
  intro k
  induction k with
  | zero => intro m n h1 h2; obtain rfl : n = 0 := by omega
            cases m with
            | zero=>rfl
            | succ m=>rw [vbF,vbF,if_pos (by omega)]
  | succ k ih=>
    intro m n h1 h2
    cases m with
    | zero => obtain rfl : n = 0 := by omega
              rw [vbF,vbF,if_pos (by omega)]
    | succ m=>
      rw [vbF,vbF];split
      · rfl
      · rw [ih m (n / 128) (by omega) (by omega)]
def vb (n:Nat):ByteArray:=vbF n n
theorem vb_lt (h:n<128):vb n=strOfNums [(n:Int)]:=by
 unfold vb
 cases n with
 | zero=>rfl
 | succ n=>rw [vbF,if_pos h]
theorem vb_ge (h:¬ n<128):vb n=strOfNums [128+(n:Int) % 128]++vb (n / 128):=by
 unfold vb
 cases n with
 | zero=>omega
 | succ n=>rw [vbF,if_neg h,vbF_same n ((n+1) / 128) ((n+1) / 128) (by omega) (qb _)]
theorem vb_size (k:Nat):∀ n,n<128 ^ (k+1)→1≤(vb n).size∧(vb n).size≤k+1:=by
 induction k with
 | zero=>intro n h;rw [vb_lt (by omega),strOfNums_size];simp
 | succ k ih=>
  intro n h;by_cases hn:n<128
  ·rw [vb_lt hn,strOfNums_size];simp
  ·rw [vb_ge hn,ByteArray.size_append,strOfNums_size];have:=ih (n / 128) (by rw [Nat.pow_succ] at h;omega);simp;omega
def okKey (k:Int):Bool:=decide (1≤k / 1048576)&&decide (k / 1048576≤1048575)&&decide (1≤k % 1048576)
def okChar (c:Int):Bool:=decide (32≤c)&&decide (c≤1114111)&&(decide (c<55296)||decide (57343<c))
def okOp (kd cl ck st rf ch:Int):Bool:=
 decide (1≤cl)&&decide (cl≤1048575)&&decide (1≤ck)&&decide (ck≤1048575)&&decide (1≤st)&&decide (st≤1073741823)&&!decide (cl*1048576+ck=rf) &&
  (if kd=1 then okChar ch&&(okKey rf||decide (rf=0)) else decide (kd=2)&&okKey rf&&decide (ch=0))
def vnF:Nat→Nat→List Int
 | 0,n=>[(n:Int)]
 | k+1,n=>if n<128 then [(n:Int)] else (128+(n:Int) % 128)::vnF k (n / 128)
theorem vnF_same:∀ k m n,n≤k→n≤m→vnF k n=vnF m n:=by
  intro k
  induction k with
  | zero => intro m n h1 h2; obtain rfl : n = 0 := by omega
            cases m with
            | zero=>rfl
            | succ m=>rw [vnF,vnF,if_pos (by omega)]
  | succ k ih=>
    intro m n h1 h2
    cases m with
    | zero => obtain rfl : n = 0 := by omega
              rw [vnF,vnF,if_pos (by omega)]
    | succ m=>
      rw [vnF,vnF];split
      · rfl
      · rw [ih m (n / 128) (by omega) (by omega)]
def vn (n:Nat):List Int:=vnF n n
theorem vn_lt (h:n<128):vn n=[(n:Int)]:=by
 unfold vn
 cases n with
 | zero=>rfl
 | succ n=>rw [vnF,if_pos h]
theorem vn_ge (h:¬ n<128):vn n=(128+(n:Int) % 128)::vn (n / 128):=by
 unfold vn
 cases n with
 | zero=>omega
 | succ n=>rw [vnF,if_neg h,vnF_same n ((n+1) / 128) ((n+1) / 128) (by omega) (qb _)]
theorem vx (k:Nat):∀ n,n<128 ^ (k+1)→1≤(vn n).length∧(vn n).length≤k+1:=by
 induction k with
 | zero=>intro n h;rw [vn_lt (by omega)];simp
 | succ k ih=>
  intro n h;by_cases hn:n<128
  ·rw [vn_lt hn];simp
  ·rw [vn_ge hn,qp];have:=ih (n / 128) (by rw [Nat.pow_succ] at h;omega);omega
def Byt (l:List Int):Prop:=∀ x∈l,0≤x∧x<256
structure Opn where
 kd:Int
 cl:Int
 ck:Int
 st:Int
 rf:Int
 ch:Int
abbrev oC (o:Opn):Array Value:=#[I6 o.kd,U3 o.cl,U3 o.ck,U3 o.st,U6 o.rf,I3 o.ch]
def opB (o:Opn):List Int:=o.kd::(vn o.cl.toNat++(vn o.ck.toNat++(vn o.st.toNat++(vn o.rf.toNat++if o.kd=1 then vn o.ch.toNat else []))))
structure OpW (o:Opn):Prop where
 kd:0≤o.kd∧o.kd<256
 cl:0≤o.cl∧o.cl≤1048575
 ck:0≤o.ck∧o.ck≤1048575
 st:0≤o.st∧o.st≤1073741823
 rf:0≤o.rf∧o.rf≤1099511627775
 ch:0≤o.ch∧o.ch≤1114111∧(o.kd≠1→o.ch=0)
section
variable {w w1 w' : World} {wd : Nat} {vP vH : Value} {hs : List Nat}
end
section
variable {w w1 w2 w3 wk w' : World} {wd : Nat} {vP vH : Value} {hs : List Nat} {F : Nat → Prop} {hb : Nat} {vb vo vl : Value} {mk : Int} {n1 n2 n3 : Nat} {vH' : Value} {hs' : List Nat} {g : Nat} {V1 V2 V3 : Value} {ls : List Value}
end
end
section
open Go.RowKit
set_option maxRecDepth 100000
set_option maxHeartbeats 8000000
section
variable {B g : Nat} {w W w2 : World} {v0 v1 v2 v3 v4 v5 : Value}
theorem Qp (hB:B≤w.heap.size) (h:Bel W w2) (k:Below B w W∧W.cell? (Ad g 0)=some v0∧W.cell? (Ad g 1)=some v1∧W.cell? (Ad g 2)=some v2∧W.cell? (Ad g 3)=some v3∧W.cell? (Ad g 4)=some v4∧W.cell? (Ad g 5)=some v5):Below B w w2∧w2.cell? (Ad g 0)=some v0∧w2.cell? (Ad g 1)=some v1∧w2.cell? (Ad g 2)=some v2∧w2.cell? (Ad g 3)=some v3∧w2.cell? (Ad g 4)=some v4∧w2.cell? (Ad g 5)=some v5:=
 ⟨k.1.trans (h.mono (qi hB k.1.size)),(h.cell (block_lt_of_cell k.2.1)).trans k.2.1,(h.cell (block_lt_of_cell k.2.2.1)).trans k.2.2.1,(h.cell (block_lt_of_cell k.2.2.2.1)).trans k.2.2.2.1,(h.cell (block_lt_of_cell k.2.2.2.2.1)).trans k.2.2.2.2.1,(h.cell (block_lt_of_cell k.2.2.2.2.2.1)).trans k.2.2.2.2.2.1,(h.cell (block_lt_of_cell k.2.2.2.2.2.2)).trans k.2.2.2.2.2.2⟩
theorem Qq (k:Below B w W∧W.cell? (Ad g 0)=some v0∧W.cell? (Ad g 1)=some v1∧W.cell? (Ad g 2)=some v2∧W.cell? (Ad g 3)=some v3∧W.cell? (Ad g 4)=some v4∧W.cell? (Ad g 5)=some v5):Below B w W.drew∧W.drew.cell? (Ad g 0)=some v0∧W.drew.cell? (Ad g 1)=some v1∧W.drew.cell? (Ad g 2)=some v2∧W.drew.cell? (Ad g 3)=some v3∧W.drew.cell? (Ad g 4)=some v4∧W.drew.cell? (Ad g 5)=some v5:=⟨k.1.drew,k.2⟩
end
end

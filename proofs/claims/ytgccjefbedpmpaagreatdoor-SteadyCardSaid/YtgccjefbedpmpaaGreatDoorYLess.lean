import Derived.Test.YtgccjefbedpmpaaGreatDoorYMem
import Derived.Deep.QuietTactic
import Derived.BigQuiet
import Derived.Lib.BufferWrite
import Derived.Deep.WholeRow
namespace Go.Proofs.YtgccjefbedpmpaaGreatDoor
open Go.RowKit
set_option maxRecDepth 100000
set_option maxHeartbeats 8000000
theorem madeCells_row (z:Value) (n:Nat):madeCells #[z] n=rowOf n (fun _=>z):=by
 refine rowOf_ext (size_madeCells _ _) fun j hj=>?_
 rw [← Array.getElem?_toList,toList_madeCells_one];simp [hj]
theorem make_row {t e:TypeId} {i:TypeInfo} {z:Value} (ht:Tryz.prog.underlying t=some (.slice e)) (hi:Tryz.prog.info? e=some i) (hz:i.zero=some z) (hs:i.size=1) (hzc:z.cells=#[z]) (c:Int) (n:Nat) (hc:c=n) (hb:i.bytes*n≤281474976710656) (hn:n≤9223372036854775807) (w:World) :
  (Instr.makeSlice t (.int .i64 c) (.int .i64 c)).run Tryz.prog w=.ok (.slice (some ⟨w.heap.size,0,none⟩) n n) (w.alloc (.cells (rowOf n fun _=>z) e)):=by
 subst hc
 have hb':(i.bytes:Int)*(n:Int)≤281474976710656:=by
  have h:((i.bytes*n:Nat):Int)≤281474976710656:=by omega
  rwa [Int.natCast_mul] at h
 have:=run_make (P:=Tryz.prog) w t e i z ht hi hz .i64 .i64 (n:Int) (n:Int) (by omega) (by omega) hb' (by omega)
 rw [this,hs,hzc,Nat.mul_one,Int.toNat_natCast,madeCells_row]
def u64c (l:List Int) (j:Nat):Value:=.int .u64 (l[j]?.getD 0)
theorem u64c_set (l:List Int) (k:Nat) (v:Int) (h:k<l.length) (j:Nat):(if j=k then Value.int .u64 v else u64c l j)=u64c (l.set k v) j:=by
 unfold u64c
 by_cases hj:j=k
 ·subst hj;simp [h]
 ·simp [hj,Ne.symm hj]
theorem info32:(Tryz.prog.info? 41).map (fun i=>(i.zero,i.size,i.bytes))=some (some (.int .u64 0),1,8):=by kernel_rfl
def vv (f av lb c:Int):Int:=IntKind.u64.wrap (IntKind.u64.wrap (f+IntKind.u64.wrap (av*lb))+c)
def st1 (nx:List Int) (a b:Nat) (av lb c:Int):List Int×Int:=
 (nx.set (a+b) (bits .and .u64 (vv (nx[a+b]?.getD 0) av lb c) 4294967295),vv (nx[a+b]?.getD 0) av lb c / 4294967296)
def inn (l:List Int) (av:Int) (a:Nat) (nx:List Int):Nat→List Int×Int
 | 0=>(nx,0)
 | b+1=>st1 (inn l av a nx b).1 a b av (l[b]?.getD 0) (inn l av a nx b).2
def stA (l A nx:List Int) (a:Nat):List Int:=
 (inn l (A[a]?.getD 0) a nx 2).1.set (a+2) (IntKind.u64.wrap ((inn l (A[a]?.getD 0) a nx 2).1[a+2]?.getD 0+(inn l (A[a]?.getD 0) a nx 2).2))
def rowA (l A:List Int) (len:Nat):Nat→List Int
 | 0=>List.replicate len 0
 | a+1=>stA l A (rowA l A len a) a
def pw (l:List Int):Nat→List Int
 | 0=>[1]
 | i+1=>rowA l (pw l i) (1+2*i+2) (1+2*i)
theorem inn_len (l:List Int) (av:Int) (a:Nat) (nx:List Int) (b:Nat):(inn l av a nx b).1.length=nx.length:=by
 induction b with
 | zero=>rfl
 | succ b ih=>simp [inn,st1,ih]
theorem rowA_len (l A:List Int) (len a:Nat):(rowA l A len a).length=len:=by
 induction a with
 | zero=>simp [rowA]
 | succ a ih=>simp [rowA,stA,inn_len,ih]
def whl (A:List Int) (n:Nat):Nat→Int
 | 0=>0
 | k+1=>bits .or .u64 (IntKind.u64.wrap (whl A n k*4294967296)) (A[n-1-k]?.getD 0)
def lowHigh (x:Int):List Int:=[bits .and .u64 x 4294967295,x / 4294967296]
def lessF (x:Int) (n:Nat) (p:Int):Bool:=decide (whl (pw (lowHigh x) n) (1+2*n) (1+n)<p)
theorem u64_set {w:World} {g n:Nat} {l:List Int} (h:RowIs w g 41 n (u64c l)) (k:Nat) (v:Int) (hk:k<l.length):RowIs (w.setCell ⟨g,k,none⟩ (.int .u64 v)) g 41 n (u64c (l.set k v)):=
 (h.set k _).congr fun j _=>u64c_set l k v hk j
theorem RowIs.drewK {w:World} {g:Nat} {t:TypeId} {n:Nat} {f:Nat→Value} (h:RowIs w g t n f) (k:Nat):RowIs (w.drewN k) g t n f:=h
theorem Below.drewsK {B:Nat} {w w':World} (h:Below B w w') (k:Nat):Below B w (w'.drewN k):=⟨h.os,h.tape,h.output,h.size,h.block⟩
theorem less_any (x p:Int) (n:Nat) (hn:n≤10) (_hx:0≤x) (w:World) :
  Calls Tryz.prog 122 #[.int .u64 x,.int .i64 n,.int .u64 p] w fun e w'=>e=.returned (.bool (lessF x n p))∧Below w.heap.size w w':=by
 obtain ⟨i0,hi,hz0,hz1,hz2⟩:=info_parts info32
 go_enter Tryz.func122,Tryz.ntmps122
 go_wp2
 go_loopw [8,9] (fun s i wr=>∃ k:Nat,k≤n∧i=.int .i64 k∧∃ ga,s=.slice (some ⟨ga,0,none⟩) (1+2*k) (1+2*k)∧RowIs wr ga 41 (1+2*k) (u64c (pw (lowHigh x) k))∧RowIs wr w.heap.size 41 2 (u64c (lowHigh x))∧w.heap.size<ga∧Below w.heap.size w wr)
  (fun _ i _=>n-(intOf i).toNat)
 case atStart=>exact ⟨0,Nat.zero_le _,rfl,_,rfl,RowIs.of (heap_alloc2_new _ _ _) rfl,RowIs.of (heap_alloc2_old _ _ _) rfl,by simp,((Below.refl _ _).alloc (Nat.le_refl _) _).alloc (by simp) _⟩
 case round=>
  obtain ⟨k,hk,rfl,ga,rfl,hrA,hrl,hga,hbl⟩:=hrel
  obtain ⟨wa,rfl⟩:∃ x,x=wr:=⟨_,rfl⟩
  by_cases hlt:k<n
  ·have hmk:=make_row (t:=132) Tryz.underlying132 hi hz0 hz1 rfl (1+2*(k:Int)+2) (1+2*k+2) (by omega) (by rw [hz2];omega) (by omega)
   generalize hA:pw (lowHigh x) k=A at hrA
   have HA:Hid (pw (lowHigh x) k=A):=hA
   generalize hl:lowHigh x=l at hrl
   have Hl:Hid (lowHigh x=l):=hl
   clear hA hl hi hz0 hz1 hz2
   have hgs:=hrA.lt
   have hbs:=hbl.size
   go_wp2
   go_loopw [11] (fun i wr2=>∃ a:Nat,a≤1+2*k∧i=.int .i64 a∧RowIs wr2 wa.heap.size 41 (1+2*k+2) (u64c (rowA l A (1+2*k+2) a))∧Below wa.heap.size wa wr2)
    (fun i _=>1+2*k-(intOf i).toNat)
   case atStart=>exact ⟨0,by omega,rfl,RowIs.of (heap_last rfl) (by rw [rowA];exact rowOf_congr fun j hj=>by simp [u64c,hj]),(Below.refl _ _).alloc (Nat.le_refl _) _⟩
   case round=>
    obtain ⟨a,ha,rfl,hrn,hb2⟩:=hrel
    have hrA2:=hrA.below hb2 hrA.lt
    have hrl2:=hrl.below hb2 hrl.lt
    by_cases hla:a<1+2*k
    ·generalize hN:rowA l A (1+2*k+2) a=N at hrn
     have HN:Hid (rowA l A (1+2*k+2) a=N):=hN
     have hNl:N.length=1+2*k+2:=by rw [← hN];exact rowA_len _ _ _ _
     have HNl:Hid (N.length=1+2*k+2):=hNl
     clear hN hNl hmk
     have cA:=hrA2.cell hla
     go_wp2
     go_loopw [12,13] (fun c i wr3=>∃ b:Nat,b≤2∧i=.int .i64 b∧c=.int .u64 (inn l (A[a]?.getD 0) a N b).2∧RowIs wr3 wa.heap.size 41 (1+2*k+2) (u64c (inn l (A[a]?.getD 0) a N b).1)∧Below wa.heap.size wa wr3)
      (fun _ i _=>2-(intOf i).toNat)
     case atStart=>exact ⟨0,by omega,rfl,rfl,hrn,hb2⟩
     case round=>
      clear hrn hb2 hrA2 hrl2 cA
      obtain ⟨b,hb,rfl,rfl,hrn,hb2⟩:=hrel
      have hrA2:=hrA.below hb2 hrA.lt
      have hrl2:=hrl.below hb2 hrl.lt
      by_cases hlb:b<2
      ·generalize hM:inn l (A[a]?.getD 0) a N b=M at hrn
       have HM:Hid (inn l (A[a]?.getD 0) a N b=M):=hM
       have cA:=hrA2.cell hla
       have cl:=hrl2.cell hlb
       have cn:=hrn.cell (show a+b<1+2*k+2 by omega)
       have fn:=hrn.free (a+b)
       unfold u64c at cA cl cn
       have hMl:a+b<M.1.length:=by rw [← hM,inn_len,HNl.out];omega
       have HMl:Hid (a+b<M.1.length):=hMl
       clear hM hMl
       go_wp2
       go_quiet (fail)
       go_wp2
       go_roundw
       case rel=>
        have e1:inn l (A[a]?.getD 0) a N (b+1)=st1 M.1 a b (A[a]?.getD 0) (l[b]?.getD 0) M.2:=by rw [inn,HM.out]
        refine ⟨b+1,by omega,by go_num,?_,?_,(Below.drewsK hb2 _).setCell (Nat.le_refl _) _⟩
        ·rw [e1];rfl
        ·rw [e1];exact u64_set (hrn.drewK _) _ _ HMl.out
       case measure=>simp [intOf];omega
      ·obtain rfl:b=2:=by omega
       generalize hM:inn l (A[a]?.getD 0) a N 2=M at hrn
       have HM:Hid (inn l (A[a]?.getD 0) a N 2=M):=hM
       have hMl:a+2<M.1.length:=by rw [← hM,inn_len,HNl.out];omega
       have HMl:Hid (a+2<M.1.length):=hMl
       have cn:=hrn.cell (show a+2<1+2*k+2 by omega)
       have fn:=hrn.free (a+2)
       unfold u64c at cn
       clear hM hMl
       go_wp2
       go_roundw
       case rel=>
        have e1:rowA l A (1+2*k+2) (a+1)=M.1.set (a+2) (IntKind.u64.wrap (M.1[a+2]?.getD 0+M.2)):=by rw [rowA,HN.out,stA,HM.out]
        refine ⟨a+1,by omega,by go_num,?_,hb2.setCell (Nat.le_refl _) _⟩
        rw [e1]
        exact u64_set hrn _ _ HMl.out
       case measure=>simp [intOf];omega
    ·obtain rfl:a=1+2*k:=by omega
     go_wp2
     go_roundw
     case rel=>exact ⟨k+1,hlt,by go_num,_,rfl,by rw [pw,← Hl.out,HA.out,Hl.out];exact hrn,hrl2,by omega,hbl.trans (hb2.mono hbs)⟩
     case measure=>simp [intOf];omega
  ·obtain rfl:k=n:=by omega
   generalize hA:pw (lowHigh x) k=A at hrA
   have HA:Hid (pw (lowHigh x) k=A):=hA
   clear hA hi hz0 hz1 hz2
   go_wp2
   go_loopw [15,16] (fun h i wr=>∃ m:Nat,m≤1+k∧i=.int .i64 (2*(k:Int)-m)∧h=.int .u64 (whl A (1+2*k) m)∧RowIs wr ga 41 (1+2*k) (u64c A)∧Below w.heap.size w wr)
    (fun _ i _=>((intOf i)+1).toNat)
   case atStart=>exact ⟨0,by omega,by go_num,rfl,hrA,hbl⟩
   case round=>
    clear hrA hbl
    obtain ⟨m,hm,rfl,rfl,hrA,hbl⟩:=hrel
    by_cases hlt:m<1+k
    ·have cA:=hrA.cell (show 2*k-m<1+2*k by omega)
     unfold u64c at cA
     generalize hH:whl A (1+2*k) m=h
     have HH:Hid (whl A (1+2*k) m=h):=hH
     clear hH
     go_wp2
     go_roundw
     case rel=>exact ⟨m+1,by omega,by go_num,by rw [whl,HH.out,show 1+2*k-1-m=2*k-m by omega],hrA,hbl⟩
     case measure=>simp [intOf];omega
    ·obtain rfl:m=1+k:=by omega
     go_wp2
     go_ret
     refine ⟨?_,hbl⟩
     rw [lessF,HA.out];rfl
def ptF (p:Int) (n:Nat):Nat→Int
 | 0=>0
 | k+1=>if lessF (bits .or .u64 (ptF p n k) (IntKind.u64.wrap (2 ^ (36-k)))) n p then bits .or .u64 (ptF p n k) (IntKind.u64.wrap (2 ^ (36-k))) else ptF p n k
theorem bits_u64 (o:BinOp) (x y:Int):0≤bits o .u64 x y:=by
 simp only [bits,IntKind.wrap,IntKind.bits,IntKind.signed]
 simp only [Bool.false_and,Bool.false_eq_true,if_false]
 omega
theorem ptF_nn (p:Int) (n k:Nat):0≤ptF p n k:=by
 induction k with
 | zero=>simp [ptF]
 | succ k ih=>unfold ptF;split;exact bits_u64 _ _ _;exact ih
theorem part_any (p:Int) (n:Nat) (hn:n≤10) (w:World) :
  Calls Tryz.prog 71 #[.int .u64 p,.int .i64 n] w fun e w'=>e=.returned (.int .u32 (ptF p n 37 % 4294967296))∧Below w.heap.size w w':=by
 go_enter Tryz.func71,Tryz.ntmps71
 go_wp2
 go_loopw [5,6] (fun x i wr=>∃ k:Nat,k≤37∧i=.int .i64 (36-(k:Int))∧x=.int .u64 (ptF p n k)∧Below w.heap.size w wr)
  (fun _ i _=>((intOf i)+1).toNat)
 case atStart=>exact ⟨0,by omega,rfl,rfl,Below.refl _ _⟩
 case round=>
  obtain ⟨k,hk,rfl,rfl,hbl⟩:=hrel
  have hnn:=ptF_nn p n k
  generalize hX:ptF p n k=x at hnn
  have HX:Hid (ptF p n k=x):=hX
  clear hX
  by_cases hlt:k<37
  ·generalize hM:bits .or .u64 x (IntKind.u64.wrap (2 ^ (36-k)))=more
   have HM:Hid (bits .or .u64 x (IntKind.u64.wrap (2 ^ (36-k)))=more):=hM
   have hmn:0≤more:=by rw [← hM];exact bits_u64 _ _ _
   have e1:ptF p n (k+1)=if lessF more n p then more else x:=by rw [ptF,HX.out,HM.out]
   have E1:Hid (ptF p n (k+1)=if lessF more n p then more else x):=e1
   clear e1
   have hM':bits BinOp.or IntKind.u64 x (IntKind.u64.wrap (2 ^ (36-k)))=more:=hM
   clear hM
   cases hle:lessF more n p
   all_goals
    go_wp2_with (go_at_call 122;refine (less_any more p n hn hmn _).mono ?_;rintro e w1 ⟨rfl,hb1⟩;rw [hle])
    go_roundw
    case rel=>exact ⟨k+1,by omega,by go_num,by rw [E1.out,hle];rfl,hbl.trans (hb1.mono hbl.size)⟩
    case measure=>simp [intOf];omega
  ·obtain rfl:k=37:=by omega
   go_wp2
   go_ret
   exact ⟨by rw [HX.out];rfl,hbl⟩
def u64s (l:List Int):List Value:=l.map (Value.int .u64)
@[simp] theorem u64s_length (l:List Int):(u64s l).length=l.length:=by simp [u64s]
theorem u64s_one (l:List Int):∀ u∈u64s l,u.oneCell'=true:=by intro u hu;simp [u64s] at hu;obtain ⟨a,_,rfl⟩:=hu;rfl
def noDiv (x:Int) (l:List Int):Bool:=l.all fun y=>x % y != 0
def pl:Nat→List Int
 | 0=>[]
 | k+1=>if noDiv (2+k) (pl k) then pl k++[2+(k:Int)] else pl k
theorem pl_mono (k j:Nat):(pl k).length≤(pl (k+j)).length:=by
 induction j with
 | zero=>exact Nat.le_refl _
 | succ j ih=>
  rw [← Nat.add_assoc,pl]
  split
  ·rw [List.length_append];omega
  ·exact ih
theorem pl_ge (k:Nat):∀ y∈pl k,2≤y:=by
  induction k with
  | zero=>simp [pl]
  | succ k ih => rw [pl]; split
                 · intro y hy;simp at hy;rcases hy with hy|rfl;exact ih y hy;omega
                 · exact ih
theorem pl_310:(pl 310).length=64:=by decide +kernel
theorem pl_309:(pl 309).length=63:=by decide +kernel
theorem pl_le (k:Nat) (h:k≤310):(pl k).length≤64:=by
 have:=pl_mono k (310-k);rw [show k+(310-k)=310 by omega,pl_310] at this;exact this
theorem pl_lt (k:Nat) (h:k<310):(pl k).length<64:=by
 have:=pl_mono k (309-k);rw [show k+(309-k)=309 by omega,pl_309] at this;omega
theorem noDiv_take (x:Int) (l:List Int) (i:Nat) (h:i<l.length):noDiv x (l.take (i+1))=(noDiv x (l.take i)&&(x % l[i] != 0)):=by
 unfold noDiv;rw [List.take_succ_eq_append_getElem h,List.all_append];simp only [List.all_cons,List.all_nil,Bool.and_true]
theorem own_view {w:World} {base e:Nat} {v:Value} {n:Nat} {xs:List Value} (h:w.ownsRow base e 1 v n xs) :
  ∃ ao cap,v=.slice ao n cap∧∀ i,i<n→∃ g,ao=some ⟨g,0,none⟩∧w.cell? ⟨g,i,none⟩=xs[i]?:=by
 rcases h.2 with ⟨rfl,rfl⟩|⟨g,cap,cur,rfl,hb,hh,hn,hm,hc,ht⟩
 ·exact ⟨none,0,rfl,fun i hi=>absurd hi (by omega)⟩
 ·exact ⟨_,cap,rfl,fun i hi=>⟨g,rfl,h.cellAt i (by omega)⟩⟩
theorem primes_any (w:World) :
  Calls Tryz.prog 70 #[.int .i64 64] w fun e w'=>∃ v,e=.returned v∧w'.ownsRow w.heap.size 41 1 v 64 (u64s (pl 310))∧Below w.heap.size w w':=by
 obtain ⟨i0,hi,hz0,hz1,hz2⟩:=info_parts info32
 go_enter Tryz.func70,Tryz.ntmps70
 go_wp2
 go_loopw [3,4] (fun v x wr=>∃ k:Nat,k≤310∧x=.int .u64 (2+(k:Int))∧wr.ownsRow w.heap.size 41 1 v (pl k).length (u64s (pl k))∧Below w.heap.size w wr)
  (fun _ x _=>(312-intOf x).toNat)
 case atStart=>exact ⟨0,by omega,rfl,World.ownsRow_nil _ _ _ _,Below.refl _ _⟩
 case round=>
  obtain ⟨k,hk,rfl,hown,hbl⟩:=hrel
  obtain ⟨ao,cap,rfl,hcl⟩:=own_view hown
  have hge:=pl_ge k
  generalize hL:pl k=L at hown hcl hge
  have HL:Hid (pl k=L):=hL
  have hL64:L.length≤64:=by rw [← hL];exact pl_le k hk
  have Hcl:Hid (∀ i,i<L.length→∃ g,ao=some ⟨g,0,none⟩∧wr.cell? ⟨g,i,none⟩=(u64s L)[i]?):=hcl
  have Hge:Hid (∀ y∈L,2≤y):=hge
  clear hcl hge
  by_cases hlt:L.length<64
  ·have hk2:k<310:=by
    rcases Nat.lt_or_ge k 310 with h|h
    ·exact h
    ·have:k=310:=by omega
     subst this;rw [← hL,pl_310] at hlt;omega
   clear hL
   go_wp2
   go_loop [5,6] (fun b i=>∃ j:Nat,j≤L.length∧i=.int .i64 j∧b=.bool (noDiv (2+(k:Int)) (L.take j))) (fun _ i=>L.length-(intOf i).toNat)
   case atStart=>exact ⟨0,Nat.zero_le _,rfl,by simp [noDiv]⟩
   case round=>
    obtain ⟨j,hj,rfl,rfl⟩:=hrel
    by_cases hjl:j<L.length
    ·obtain ⟨g,rfl,hc⟩:=Hcl.out j hjl
     have hc':wr.cell? ⟨g,j,none⟩=some (.int .u64 L[j]):=by rw [hc];simp [u64s,hjl]
     have hL2:2≤L[j]:=Hge.out _ (List.getElem_mem hjl)
     have nt:=noDiv_take (2+(k:Int)) L j hjl
     have NT:Hid (noDiv (2+(k:Int)) (L.take (j+1))=(noDiv (2+(k:Int)) (L.take j)&&((2+(k:Int)) % L[j] != 0))):=nt
     clear nt hc
     generalize hY:L[j]=y at hc' hL2
     have HY:Hid (L[j]=y):=hY
     clear hY
     cases hB:noDiv (2+(k:Int)) (L.take j)
     all_goals
      go_wp2
      go_round
      case rel=>exact ⟨j+1,by omega,by go_num,by rw [NT.out,HY.out,hB];simp⟩
      case measure=>simp [intOf];omega
    ·obtain rfl:j=L.length:=by omega
     have hB:noDiv (2+(k:Int)) (L.take L.length)=noDiv (2+(k:Int)) L:=by rw [List.take_length]
     cases hC:noDiv (2+(k:Int)) L
     ·rw [hB,hC]
      go_wp2
      go_roundw
      case rel=>exact ⟨k+1,by omega,by go_num,by rw [pl,HL.out,hC];exact hown,hbl⟩
      case measure=>simp [intOf];omega
     ·rw [hB,hC]
      go_wp2_with (at_builtin;refine wpList_append_own _ rfl (.tmp 30) (.tmp 32) 132 rfl w.heap.size 41 i0 (.int .u64 0) 1 8 Tryz.underlying132 hi hz0 hz1 hz2 rfl (by decide) _ _ _ rfl (hown.alloc _) ⟨wr.heap.size,0,none⟩ 1 1 (u64s [2+(k:Int)]) rfl rfl (cell_one_new _ _ _) (u64s_one _) (by unfold maxLen;omega) (by omega) (by have:=hbl.size;simp;omega) ?_;intro v' w1 hown1 hgr1 _)
      go_roundw
      case rel=>
       refine ⟨k+1,by omega,by go_num,?_,(hbl.alloc hbl.size _).grown hgr1 (by simp;have:=hbl.size;omega) ?_⟩
       ·rw [pl,HL.out,hC];simpa [u64s] using hown1
       ·intro k hk;exact (hown.lt k hk).1
      case measure=>simp [intOf];omega
  ·have hk3:k=310:=by
    rcases Nat.lt_or_ge k 310 with h|h
    ·have:=pl_lt k h;rw [hL] at this;omega
    ·omega
   have hl64:L.length=64:=by omega
   have HR:Hid (wr.ownsRow w.heap.size 41 1 (.slice ao L.length cap) 64 (u64s (pl 310))):=by rw [← hk3,hL,← hl64];exact hown
   have hge64:64≤L.length:=by omega
   clear hL hk3 hl64
   go_wp2
   go_ret
   exact ⟨_,rfl,HR.out,hbl⟩
theorem rootK0:ptF 2 3 37 % 4294967296=1116352408:=by decide +kernel
theorem rootK1:ptF 3 3 37 % 4294967296=1899447441:=by decide +kernel
theorem rootK2:ptF 5 3 37 % 4294967296=3049323471:=by decide +kernel
theorem rootK3:ptF 7 3 37 % 4294967296=3921009573:=by decide +kernel
theorem rootK4:ptF 11 3 37 % 4294967296=961987163:=by decide +kernel
theorem rootK5:ptF 13 3 37 % 4294967296=1508970993:=by decide +kernel
theorem rootK6:ptF 17 3 37 % 4294967296=2453635748:=by decide +kernel
theorem rootK7:ptF 19 3 37 % 4294967296=2870763221:=by decide +kernel
theorem rootK8:ptF 23 3 37 % 4294967296=3624381080:=by decide +kernel
theorem rootK9:ptF 29 3 37 % 4294967296=310598401:=by decide +kernel
theorem rootK10:ptF 31 3 37 % 4294967296=607225278:=by decide +kernel
theorem rootK11:ptF 37 3 37 % 4294967296=1426881987:=by decide +kernel
theorem rootK12:ptF 41 3 37 % 4294967296=1925078388:=by decide +kernel
theorem rootK13:ptF 43 3 37 % 4294967296=2162078206:=by decide +kernel
theorem rootK14:ptF 47 3 37 % 4294967296=2614888103:=by decide +kernel
theorem rootK15:ptF 53 3 37 % 4294967296=3248222580:=by decide +kernel
theorem rootK16:ptF 59 3 37 % 4294967296=3835390401:=by decide +kernel
theorem rootK17:ptF 61 3 37 % 4294967296=4022224774:=by decide +kernel
theorem rootK18:ptF 67 3 37 % 4294967296=264347078:=by decide +kernel
theorem rootK19:ptF 71 3 37 % 4294967296=604807628:=by decide +kernel
theorem rootK20:ptF 73 3 37 % 4294967296=770255983:=by decide +kernel
theorem rootK21:ptF 79 3 37 % 4294967296=1249150122:=by decide +kernel
theorem rootK22:ptF 83 3 37 % 4294967296=1555081692:=by decide +kernel
theorem rootK23:ptF 89 3 37 % 4294967296=1996064986:=by decide +kernel
theorem rootK24:ptF 97 3 37 % 4294967296=2554220882:=by decide +kernel
theorem rootK25:ptF 101 3 37 % 4294967296=2821834349:=by decide +kernel
theorem rootK26:ptF 103 3 37 % 4294967296=2952996808:=by decide +kernel
theorem rootK27:ptF 107 3 37 % 4294967296=3210313671:=by decide +kernel
theorem rootK28:ptF 109 3 37 % 4294967296=3336571891:=by decide +kernel
theorem rootK29:ptF 113 3 37 % 4294967296=3584528711:=by decide +kernel
theorem rootK30:ptF 127 3 37 % 4294967296=113926993:=by decide +kernel
theorem rootK31:ptF 131 3 37 % 4294967296=338241895:=by decide +kernel
theorem rootH0:ptF 2 2 37 % 4294967296=1779033703:=by decide +kernel
theorem rootH1:ptF 3 2 37 % 4294967296=3144134277:=by decide +kernel
theorem rootH2:ptF 5 2 37 % 4294967296=1013904242:=by decide +kernel
theorem rootH3:ptF 7 2 37 % 4294967296=2773480762:=by decide +kernel
theorem rootH4:ptF 11 2 37 % 4294967296=1359893119:=by decide +kernel
theorem rootH5:ptF 13 2 37 % 4294967296=2600822924:=by decide +kernel
theorem rootH6:ptF 17 2 37 % 4294967296=528734635:=by decide +kernel
theorem rootH7:ptF 19 2 37 % 4294967296=1541459225:=by decide +kernel
theorem rootK32:ptF 137 3 37 % 4294967296=666307205:=by decide +kernel
theorem rootK33:ptF 139 3 37 % 4294967296=773529912:=by decide +kernel
theorem rootK34:ptF 149 3 37 % 4294967296=1294757372:=by decide +kernel
theorem rootK35:ptF 151 3 37 % 4294967296=1396182291:=by decide +kernel
theorem rootK36:ptF 157 3 37 % 4294967296=1695183700:=by decide +kernel
theorem rootK37:ptF 163 3 37 % 4294967296=1986661051:=by decide +kernel
theorem rootK38:ptF 167 3 37 % 4294967296=2177026350:=by decide +kernel
theorem rootK39:ptF 173 3 37 % 4294967296=2456956037:=by decide +kernel
theorem rootK40:ptF 179 3 37 % 4294967296=2730485921:=by decide +kernel
theorem rootK41:ptF 181 3 37 % 4294967296=2820302411:=by decide +kernel
theorem rootK42:ptF 191 3 37 % 4294967296=3259730800:=by decide +kernel
theorem rootK43:ptF 193 3 37 % 4294967296=3345764771:=by decide +kernel
theorem rootK44:ptF 197 3 37 % 4294967296=3516065817:=by decide +kernel
theorem rootK45:ptF 199 3 37 % 4294967296=3600352804:=by decide +kernel
theorem rootK46:ptF 211 3 37 % 4294967296=4094571909:=by decide +kernel
theorem rootK47:ptF 223 3 37 % 4294967296=275423344:=by decide +kernel
theorem rootK48:ptF 227 3 37 % 4294967296=430227734:=by decide +kernel
theorem rootK49:ptF 229 3 37 % 4294967296=506948616:=by decide +kernel
theorem rootK50:ptF 233 3 37 % 4294967296=659060556:=by decide +kernel
theorem rootK51:ptF 239 3 37 % 4294967296=883997877:=by decide +kernel
theorem rootK52:ptF 241 3 37 % 4294967296=958139571:=by decide +kernel
theorem rootK53:ptF 251 3 37 % 4294967296=1322822218:=by decide +kernel
theorem rootK54:ptF 257 3 37 % 4294967296=1537002063:=by decide +kernel
theorem rootK55:ptF 263 3 37 % 4294967296=1747873779:=by decide +kernel
theorem rootK56:ptF 269 3 37 % 4294967296=1955562222:=by decide +kernel
theorem rootK57:ptF 271 3 37 % 4294967296=2024104815:=by decide +kernel
theorem rootK58:ptF 277 3 37 % 4294967296=2227730452:=by decide +kernel
theorem rootK59:ptF 281 3 37 % 4294967296=2361852424:=by decide +kernel
theorem rootK60:ptF 283 3 37 % 4294967296=2428436474:=by decide +kernel
theorem rootK61:ptF 293 3 37 % 4294967296=2756734187:=by decide +kernel
theorem rootK62:ptF 307 3 37 % 4294967296=3204031479:=by decide +kernel
theorem rootK63:ptF 311 3 37 % 4294967296=3329325298:=by decide +kernel
def mBy (m:ByteArray) (i:Nat):Int:=((m.data.toList[i]?.getD 0).toNat:Int)
theorem infoU8:(Tryz.prog.info? 5).map (fun i=>(i.zero,i.size,i.bytes))=some (some (.int .u8 0),1,1):=by kernel_rfl
def lentC (s:ByteArray) (k i:Nat):Value:=.int .u8 (if i<s.size then mBy s i else if i<k then 201 else 0)
theorem lent_copy (s:ByteArray) (w:World):(Builtin.copy_ #[59,9] 3 #[.slice (some ⟨w.heap.size,0,none⟩) (s.size+8) (s.size+8),.string s]).run Tryz.prog (w.alloc (.cells (rowOf (s.size+8) fun _=>.int .u8 0) 5))=.ok (goInt s.size) (w.alloc (.cells (rowOf (s.size+8) (lentC s s.size)) 5)):=by
 rw [Lib.run_copy_row_string (P:=Tryz.prog) _ 59 9 3 5 w.heap.size 0 (s.size+8) (s.size+8) s _ 5 Tryz.underlying59 (by kernel_rfl) (heap_alloc_new _ _) (by omega) (by simp),World.setRow_alloc_new]
 congr 3
 refine rowOf_ext ?_ fun j hj=>?_
 ·simp [Lib.byteCells]
 ·have hsz:(Lib.byteCells s.data.toList).length=s.size:=by simp [Lib.byteCells]
  rw [List.getElem?_toArray,List.take_zero,List.nil_append,Nat.zero_add]
  by_cases h:j<s.size
  ·rw [List.getElem?_append_left (by omega)]
   unfold lentC mBy
   rw [if_pos h]
   have h2:j<s.data.toList.length:=by simpa using h
   rw [Lib.byteCells,List.getElem?_map,List.getElem?_eq_getElem h2];rfl
  ·rw [List.getElem?_append_right (by omega),hsz,List.getElem?_drop,Array.getElem?_toList,rowOf_get _ (by omega)]
   unfold lentC
   rw [if_neg h,if_neg h]
theorem lent_step (s:ByteArray) (k:Nat) (hk:s.size≤k) (j:Nat):(if j=k then Value.int .u8 201 else lentC s k j)=lentC s (k+1) j:=by
 unfold lentC
 by_cases h:j=k
 ·subst h;rw [if_pos rfl,if_neg (by omega),if_pos (by omega)]
 ·rw [if_neg h]
  have e:j<k+1↔j<k:=by omega
  simp only [e]
theorem lent_any (s:ByteArray) (hs:s.size≤140737488351232) (w:World) :
  Calls Tryz.prog 126 #[.string s] w fun e w'=>e=.returned (.slice (some ⟨w.heap.size,0,none⟩) (s.size+8) (s.size+8))∧RowIs w' w.heap.size 5 (s.size+8) (lentC s (s.size+8))∧Below w.heap.size w w':=by
 obtain ⟨i0,hi,hz0,hz1,hz2⟩:=info_parts infoU8
 have hmk:=make_row (t:=59) Tryz.underlying59 hi hz0 hz1 rfl ((s.size:Int)+8) (s.size+8) (by omega) (by rw [hz2];omega) (by omega)
 clear hi hz0 hz1 hz2
 have hcp:=lent_copy s w
 have hst:=fun k hk j=>lent_step s k hk j
 generalize hS:s.size=S at *
 have HS:Hid (∀ k,S≤k→∀ j,(if j=k then Value.int .u8 201 else lentC s k j)=lentC s (k+1) j):=hst
 clear hst
 go_enter Tryz.func126,Tryz.ntmps126
 go_wp2
 go_loopw [4] (fun i wr=>∃ k:Nat,S≤k∧k≤S+8∧i=.int .i64 k∧RowIs wr w.heap.size 5 (S+8) (lentC s k)∧Below w.heap.size w wr) (fun i _=>S+8-(intOf i).toNat)
 case atStart=>exact ⟨S,by omega,by omega,rfl,RowIs.new _ _ _ _,(Below.refl _ _).alloc (Nat.le_refl _) _⟩
 case round=>
  obtain ⟨k,hk1,hk2,rfl,hr,hbl⟩:=hrel
  clear hcp hmk
  by_cases hlt:k<S+8
  ·have c0:=hr.cell hlt
   have f0:=hr.free k
   have lk:(k:Int)<(S:Int)+8:=by omega
   go_wp2
   go_roundw
   case rel=>exact ⟨k+1,by omega,by omega,by go_num,(hr.set k _).congr fun j _=>HS.out k hk1 j,hbl.setCell (Nat.le_refl _) _⟩
   case measure=>simp [intOf];omega
  ·obtain rfl:k=S+8:=by omega
   go_wp2
   go_ret
   exact ⟨rfl,hr,hbl⟩
end Go.Proofs.YtgccjefbedpmpaaGreatDoor

import Derived.Test.YtgccjefbedpmpaaGreatDoorYWords
import Derived.Test.YtgccjefbedpmpaaGreatDoorYTk
import Derived.BigRegion
import Derived.Deep.RegionWith
import Derived.Shelf.LaysM
import Derived.Shelf.Strconv.Itoa3
namespace Go.Proofs.YtgccjefbedpmpaaGreatDoor
open Go.RowKit Go.Shelf
set_option maxRecDepth 100000
set_option maxHeartbeats 8000000
variable {B g j k n : Nat} {f : Nat→Value} {w' : World}
def rowOf (n:Nat) (f:Nat→Value):Array Value:=Array.ofFn (n:=n) fun i=>f i
@[simp] theorem rowOf_size (n:Nat) (f:Nat→Value):(rowOf n f).size=n:=by simp [rowOf]
theorem rowOf_get (f:Nat→Value) (h:j<n):(rowOf n f)[j]?=some (f j):=by simp [rowOf,h]
theorem rowOf_out (f:Nat→Value) (h:n≤j):(rowOf n f)[j]?=none:=by simp [rowOf];omega
theorem rowOf_ext {a:Array Value} (hs:a.size=n) (h:∀ j,j<n→a[j]?=some (f j)):a=rowOf n f:=by
 apply Array.ext_getElem?;intro i;by_cases hi:i<n
 ·rw [h i hi,rowOf_get f hi]
 ·rw [rowOf_out f (by omega)];simp;omega
theorem xv {g:Nat→Value} (h:∀ j,j<n→f j=g j):rowOf n f=rowOf n g:=
 rowOf_ext (by simp) fun j hj=>by rw [rowOf_get f hj,h j hj]
theorem rowOf_set (n:Nat) (f:Nat→Value) (k:Nat) (v:Value):(rowOf n f).setIfInBounds k v=rowOf n (fun j=>if j=k then v else f j):=by
 refine rowOf_ext (by simp) fun j hj=>?_;rw [Array.getElem?_setIfInBounds];by_cases h:k=j
 ·subst h;simp [hj]
 ·rw [if_neg h,rowOf_get f hj,if_neg (fun e=>h e.symm)]
def RowIs (w:World) (g:Nat) (t:TypeId) (n:Nat) (f:Nat→Value):Prop:=w.heap[g]?=some (.cells (rowOf n f) t (0,0))
theorem RowIs.cell {w:World} {t:TypeId} (h:RowIs w g t n f) (hj:j<n):w.cell? (Ad g j)=some (f j):=by
 rw [cell_of_row _ _ _ _ _ _ h,rowOf_get f hj]
theorem RowIs.free {w:World} {t:TypeId} (h:RowIs w g t n f) (j:Nat):w.frozen? (Ad g j)=false:=frozen_of_row _ _ _ _ _ h
theorem RowIs.lt {w:World} {t:TypeId} (h:RowIs w g t n f):g<w.heap.size:=by
 unfold RowIs at h;by_cases hg:g<w.heap.size
 ·exact hg
 ·rw [Array.getElem?_eq_none (by omega)] at h;cases h
theorem RowIs.set {w:World} {t:TypeId} (h:RowIs w g t n f) (k:Nat) (v:Value):RowIs (w.setCell (Ad g k) v) g t n (fun j=>if j=k then v else f j):=by
 unfold RowIs;rw [heap_setCell_same _ _ _ _ _ _ h,rowOf_set]
theorem RowIs.setOther {w:World} {t:TypeId} (h:RowIs w g t n f) {a:Addr} (ha:a.block≠g) (v:Value):RowIs (w.setCell a v) g t n f:=by
 unfold RowIs;rw [heap_setCell_other _ _ _ _ (fun e=>ha e.symm)];exact h
theorem RowIs.setRow {w:World} {t:TypeId} (h:RowIs w g t n f) (f':Nat→Value):RowIs (w.setRow g (rowOf n f')) g t n f':=setRow_heap _ _ _ _ _ _ h
theorem RowIs.setRowOther {w:World} {t:TypeId} (h:RowIs w g t n f) {g':Nat} (hg:g'≠g) (cs:Array Value):RowIs (w.setRow g' cs) g t n f:=by
 unfold RowIs;rw [setRow_other _ _ _ _ (fun e=>hg e.symm)];exact h
theorem RowIs.drew {w:World} {t:TypeId} (h:RowIs w g t n f):RowIs w.drew g t n f:=h
theorem RowIs.below {w:World} {t:TypeId} (h:RowIs w g t n f) (hb:Below B w w') (hg:g<B):RowIs w' g t n f:=by
 unfold RowIs;rw [hb.block g hg];exact h
theorem RowIs.alloc {w:World} {t:TypeId} (h:RowIs w g t n f) (o:Obj):RowIs (w.alloc o) g t n f:=by
 unfold RowIs;rw [Below.heap_alloc _ _ _ h.lt];exact h
theorem RowIs.congr {w:World} {t:TypeId} {f':Nat→Value} (h:RowIs w g t n f) (hf:∀ j,j<n→f j=f' j):RowIs w g t n f':=by
 unfold RowIs;rw [← xv hf];exact h
theorem RowIs.new (w:World) (t:TypeId) (n:Nat) (f:Nat→Value):RowIs (w.alloc (.cells (rowOf n f) t)) w.heap.size t n f:=heap_alloc_new _ _
theorem RowIs.of {w:World} {t:TypeId} {cs:Array Value} (h:w.heap[g]?=some (.cells cs t (0,0))) (e:cs=rowOf n f):RowIs w g t n f:=by
 unfold RowIs;rw [← e];exact h
theorem heap_last {w:World} {o:Obj} (h:n=w.heap.size):(w.alloc o).heap[n]?=some o:=by subst h;exact heap_alloc_new _ _
theorem RowIs.last {w:World} {cs:Array Value} {t:TypeId} (h:g=w.heap.size) (e:cs=rowOf n f):RowIs (w.alloc (.cells cs t)) g t n f:=RowIs.of (heap_last h) e
theorem xw {w:World} {o:Obj} (h:n<w.heap.size):(w.alloc o).heap[n]?=w.heap[n]?:=Below.heap_alloc _ _ _ h
theorem rows4 (w:World) (A B C D:Obj):let w4:=(((w.alloc A).alloc B).alloc C).alloc D
  w4.heap[w.heap.size]?=some A∧w4.heap[w.heap.size+1]?=some B∧w4.heap[w.heap.size+1+1]?=some C∧w4.heap[w.heap.size+1+1+1]?=some D∧Bel w w4:=by
 intro w4;refine ⟨?_,?_,?_,heap_last (by simp),?_⟩
 ·rw [show w4.heap[w.heap.size]?=_ from xw (by simp<;>omega),xw (by simp<;>omega),xw (by simp)];exact heap_last rfl
 ·rw [show w4.heap[w.heap.size+1]?=_ from xw (by simp<;>omega),xw (by simp)];exact heap_last (by simp)
 ·rw [show w4.heap[w.heap.size+1+1]?=_ from xw (by simp)];exact heap_last (by simp)
 ·exact ((((qj _ _).alloc (qb _) _).alloc (by simp) _).alloc (by simp<;>omega) _).alloc (by simp<;>omega) _
theorem ints_one (k:IntKind) (n:Nat) (f:Nat→Int):(rowOf n (fun j=>.int k (f j))).all (·.oneCell')=true:=by
 rw [Array.all_eq_true];intro i hi;simp [rowOf,Value.oneCell']
theorem kn {w0 w:World} (hb:Below B w0 w) (hBg:B≤g) (cs:Array Value):Below B w0 (w.setRow g cs):=
 hb.trans ⟨rfl,rfl,rfl,by simp,fun k hk=>setRow_other _ _ _ _ (by omega)⟩
theorem i64w (x:Int) (h:-9223372036854775808≤x∧x≤9223372036854775807):IntKind.i64.wrap x=x:=by
 have e:IntKind.i64.wrap x=if x % 18446744073709551616≥9223372036854775808 then x % 18446744073709551616-18446744073709551616 else x % 18446744073709551616:=by
  simp [IntKind.wrap,IntKind.bits,IntKind.signed]
 rw [e];split<;>omega
theorem RowIs.cellSet {w:World} {t:TypeId} (h:RowIs w g t n f) (hj:j<n) (hne:j≠k) (v:Value):(w.setCell (Ad g k) v).cell? (Ad g j)=some (f j):=by
 rw [(h.set k v).cell hj,if_neg hne]
def wd0 (m:Nat→Int) (t:Nat):Int:=bits .or .u32 (bits .or .u32 (bits .or .u32 (m (4*t)*16777216) (m (4*t+1)*65536)) (m (4*t+2)*256)) (m (4*t+3))
def sch (m:Nat→Int) (t:Nat):Int:=if h:t<16 then wd0 m t else
 (s1 (sch m (t-2))+sch m (t-7)+s0 (sch m (t-15))+sch m (t-16)) % 4294967296
theorem sch_lt (m:Nat→Int) {t:Nat} (h:t<16):sch m t=wd0 m t:=by rw [sch];simp [h]
theorem sch_ge (m:Nat→Int) {t:Nat} (h:16≤t):sch m t=(s1 (sch m (t-2))+sch m (t-7)+s0 (sch m (t-15))+sch m (t-16)) % 4294967296:=by
 rw [sch];simp [show ¬ t<16 by omega]
theorem sch_w (m:Nat→Int) (t:Nat):W32 (sch m t):=by
 by_cases h:t<16
 ·rw [sch_lt m h];exact bits_w32 _ _ _
 ·rw [sch_ge m (by omega)];unfold W32;omega
theorem sch_step (a b c d:Int):IntKind.u32.wrap (IntKind.u32.wrap (IntKind.u32.wrap (a+b)+c)+d)=(a+b+c+d) % 4294967296:=by
 simp [IntKind.wrap,IntKind.bits,IntKind.signed]
def schTo (m:Nat→Int) (k j:Nat):Value:=U3 (if j<k then sch m j else 0)
theorem schTo_step (m:Nat→Int) (k:Nat) (j:Nat):(if j=k then U3 (sch m k) else schTo m k j)=schTo m (k+1) j:=by
 unfold schTo;by_cases h:j=k
 ·subst h;simp
 ·by_cases h':j<k
  ·simp [h,h',show j<k+1 by omega]
  ·simp [h,h',show ¬ j<k+1 by omega]
theorem schTo_lt {m:Nat→Int} (h:j<k):schTo m k j=U3 (sch m j):=by simp [schTo,h]
theorem info28:(Tryz.prog.info? 78).map (·.size)=some 64:=by kernel_rfl
theorem row64_lit:#[U3 0,U3 0,U3 0,U3 0,U3 0,U3 0,U3 0,U3 0,U3 0,U3 0,U3 0,U3 0,U3 0,U3 0,U3 0,U3 0,U3 0,U3 0,U3 0,U3 0,U3 0,U3 0,U3 0,U3 0,U3 0,U3 0,U3 0,U3 0,U3 0,U3 0,U3 0,U3 0,U3 0,U3 0,U3 0,U3 0,U3 0,U3 0,U3 0,U3 0,U3 0,U3 0,U3 0,U3 0,U3 0,U3 0,U3 0,U3 0,U3 0,U3 0,U3 0,U3 0,U3 0,U3 0,U3 0,U3 0,U3 0,U3 0,U3 0,U3 0,U3 0,U3 0,U3 0,U3 0]=rowOf 64 (fun _=>U3 0):=by rfl
theorem row64_zero (m:Nat→Int):rowOf 64 (fun _=>U3 0)=rowOf 64 (schTo m 0):=xv fun j _=>by simp [schTo]
theorem sched_rel2 {wr:World} {m:Nat→Int} (hr:RowIs wr g 78 64 (schTo m (n+16))):RowIs (wr.setCell ⟨g,n+16,none⟩ (Value.int IntKind.u32 (IntKind.u32.wrap (IntKind.u32.wrap (IntKind.u32.wrap (s1 (sch m (n+14))+sch m (n+9))+s0 (sch m (n+1)))+sch m n)))).drew g 78 64 (schTo m (n+16+1)):=by
 refine ((hr.set (n+16) _).drew).congr fun j _=>?_;rw [← schTo_step m (n+16) j,sch_ge m (show 16≤n+16 by omega),sch_step];rfl
theorem sched_end (m:Nat→Int):rowOf 64 (schTo m 64)=rowOf 64 (fun j=>U3 (sch m j)):=xv fun _ hj=>schTo_lt hj
theorem schedule_any (b off len cap:Nat) (m:Nat→Int) (w:World) (hcell:∀ i,i<64→w.cell? ⟨b,off+i,none⟩=some (U8 (m i))) (hm:∀ i,0≤m i∧m i≤255) (hlen:64≤len) (hb:b<w.heap.size) :
  Cs 255 #[.slice (some (Ad b off)) len cap] w fun e w'=>e=.returned (.agg (rowOf 64 fun j=>U3 (sch m j)))∧Bel w w':=by
 go_enter Tryz.func255,Tryz.ntmps255;go_wp2
 go_loopw [6] (fun i wr=>∃ k:Nat,k≤16∧i=I6 k∧RowIs wr (w.heap.size+1) 78 64 (schTo m k)∧RowIs wr w.heap.size 78 64 (fun _=>U3 0)∧Bel w wr)
  (fun i _=>16-(intOf i).toNat)
 case atStart=>
  refine ⟨0,by omega,rfl,RowIs.of (heap_alloc2_new _ _ _) (row64_lit.trans (row64_zero m)),RowIs.of (heap_alloc2_old _ _ _) row64_lit,?_⟩;exact ((qj _ _).alloc (qb _) _).alloc (by simp) _
 case round=>
  obtain ⟨k,hk,rfl,hr,hz,hbl⟩:=hrel;by_cases hlt:k<16
  ·have c0:∀ j,j<64→wr.cell? ⟨b,off+j,none⟩=some (U8 (m j)):=fun j hj=>(hbl.cell (by exact hb)).trans (hcell j hj);have hmm:=hm (4*k);have hmm1:=hm (4*k+1);have hmm2:=hm (4*k+2);have hmm3:=hm (4*k+3);have e0:=c0 (4*k) (by omega);have e1:=c0 (4*k+1) (by omega);have e2:=c0 (4*k+2) (by omega);have e3:=c0 (4*k+3) (by omega);have d1:=hr.cell (show k<64 by omega);have f1:=hr.free k;clear c0 hm hcell;go_wp2;go_region;go_wp2;go_roundw
   case rel=>
    refine ⟨k+1,by omega,by go_num,?_,?_,?_⟩
    ·refine ((hr.set k _).drew).congr fun j _=>?_;rw [← schTo_step,sch_lt m hlt];rfl
    ·exact (hz.setOther (by simp) _).drew
    ·exact (hbl.setCell (by simp) _).drew
   case measure=>simp [intOf];omega
  ·obtain rfl:k=16:=by omega
   go_wp2
   go_loopw [5] (fun i wr=>∃ k:Nat,16≤k∧k≤64∧i=I6 k∧RowIs wr (w.heap.size+1) 78 64 (schTo m k)∧RowIs wr w.heap.size 78 64 (fun _=>U3 0)∧Bel w wr)
    (fun i _=>64-(intOf i).toNat)
   case atStart=>exact ⟨16,by omega,by omega,rfl,hr,hz,hbl⟩
   case round=>
    clear hr hz hbl;obtain ⟨k,hk,hk2,rfl,hr,hz,hbl⟩:=hrel;by_cases hlt:k<64
    ·obtain ⟨n,rfl⟩:∃ n,k=n+16:=⟨k-16,by omega⟩;have e0:=(hr.cell (show n+14<64 by omega)).trans (congrArg some (schTo_lt (show n+14<n+16 by omega)));have e1:=(hr.cell (show n+9<64 by omega)).trans (congrArg some (schTo_lt (show n+9<n+16 by omega)));have e2:=(hr.cell (show n+1<64 by omega)).trans (congrArg some (schTo_lt (show n+1<n+16 by omega)));have e3:=(hr.cell (show n<64 by omega)).trans (congrArg some (schTo_lt (show n<n+16 by omega)));have d1:=hr.cell hlt;have f1:=hr.free (n+16);have w2:=sch_w m (n+14);have w15:=sch_w m (n+1);have ek:((n+16:Nat):Int)=(n:Int)+16:=by omega
     have z2:IntKind.i64.wrap ((n:Int)+16-2)=(n:Int)+14:=(i64w _ (by omega)).trans (by omega);have j2:(0:Int)≤(n:Int)+14:=by omega
     have t2:((n:Int)+14).toNat=n+14:=by omega
     have k2:=fun v=>(hr.cellSet (show n+14<64 by omega) (show n+14≠n+16 by omega) v).trans (congrArg some (schTo_lt (show n+14<n+16 by omega)));have z7:IntKind.i64.wrap ((n:Int)+16-7)=(n:Int)+9:=(i64w _ (by omega)).trans (by omega);have j7:(0:Int)≤(n:Int)+9:=by omega
     have t7:((n:Int)+9).toNat=n+9:=by omega
     have k7:=fun v=>(hr.cellSet (show n+9<64 by omega) (show n+9≠n+16 by omega) v).trans (congrArg some (schTo_lt (show n+9<n+16 by omega)));have z15:IntKind.i64.wrap ((n:Int)+16-15)=(n:Int)+1:=(i64w _ (by omega)).trans (by omega);have j15:(0:Int)≤(n:Int)+1:=by omega
     have t15:((n:Int)+1).toNat=n+1:=by omega
     have k15:=fun v=>(hr.cellSet (show n+1<64 by omega) (show n+1≠n+16 by omega) v).trans (congrArg some (schTo_lt (show n+1<n+16 by omega)));have z16:IntKind.i64.wrap (n:Int)=(n:Int):=i64w _ (by omega);have k16:=fun v=>(hr.cellSet (show n<64 by omega) (show n≠n+16 by omega) v).trans (congrArg some (schTo_lt (show n<n+16 by omega)));have jk:(0:Int)≤(n:Int)+16:=by omega
     have tk:((n:Int)+16).toNat=n+16:=by omega
     have l2:(n:Int)+14<64:=by omega
     have l7:(n:Int)+9<64:=by omega
     have l15:(n:Int)+1<64:=by omega
     have l16:(n:Int)<64:=by omega
     have lk:(n:Int)+16<64:=by omega
     clear hm hcell;go_wp2
     go_region_held3 (fun w'=>w'.cell? ⟨w.heap.size+1,n+14,none⟩=some (U3 (sch m (n+14)))∧w'.cell? ⟨w.heap.size+1,n+9,none⟩=some (U3 (sch m (n+9)))∧w'.cell? ⟨w.heap.size+1,n+1,none⟩=some (U3 (sch m (n+1)))∧w'.cell? ⟨w.heap.size+1,n,none⟩=some (U3 (sch m n))) (go_keep)
      (first|(go_at_call 285;refine (s1_any _ _ w2).mono ?_;rintro e w' ⟨rfl,rfl⟩)|(go_at_call 286;refine (s0_any _ _ w15).mono ?_;rintro e w' ⟨rfl,rfl⟩))
     go_wp2;go_roundw
     case rel=>
      have R1:=sched_rel2 hr;have R2:=(hz.setOther (a:=⟨w.heap.size+1,n+16,none⟩) (by simp) (Value.int IntKind.u32 (IntKind.u32.wrap (IntKind.u32.wrap (IntKind.u32.wrap (s1 (sch m (n+14))+sch m (n+9))+s0 (sch m (n+1)))+sch m n)))).drew;have R3:=(hbl.setCell (p:=⟨w.heap.size+1,n+16,none⟩) (by simp) (Value.int IntKind.u32 (IntKind.u32.wrap (IntKind.u32.wrap (IntKind.u32.wrap (s1 (sch m (n+14))+sch m (n+9))+s0 (sch m (n+1)))+sch m n)))).drew
      (repeat apply Exists.intro)
      exact ⟨⟨n+16+1,by omega,by omega,by go_num,R1,R2,R3⟩,rfl⟩
     case measure=>simp [intOf];omega
    ·obtain rfl:k=64:=by omega
     have Hh:Hid (wr.heap[w.heap.size+1]?=some (.cells (rowOf 64 (schTo m 64)) 78 (0,0))):=hr;go_wp2_with (first|(refine wpList_load_row rfl 78 _ rfl (w.heap.size+1) rfl _ _ (0,0) _ Hh.out Tryz.underlying78 rfl (by rw [rowOf_size];exact info28) ?_)|(refine wpList_store_row rfl 78 _ _ rfl w.heap.size _ rfl rfl _ _ hz (by rw [rowOf_size];exact info28) (by simp) (ints_one _ _ _) ?_));refine bodyPost_ret (v:=.agg (rowOf 64 (schTo m 64))) (results_cell_row Tryz.results255 _ _ w.heap.size 78 _ (0,0) _ rfl (hz.setRow _) Tryz.underlying78 rfl (by rw [rowOf_size];exact info28)) rfl ⟨?_,kn hbl (qb _) _⟩;rw [sched_end]
def Tens (w:World):Prop:=∃ t f,w.heap[12]?=some (.cells (Lib.pow10Tab.map fun z=>U6 z).toArray t f)
theorem Tens.below {w:World} (h:Tens w) (hb:Bel w w'):Tens w':=by
 obtain ⟨t,f,h⟩:=h;exact ⟨t,f,(hb.block _ (zf.1 h).1).trans h⟩

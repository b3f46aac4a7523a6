import Derived.Test.YtgccjefbedpmpaaGreatDoorYStr
import Derived.Test.YtgccjefbedpmpaaGreatDoorYSortU10
namespace Go.Proofs.YtgccjefbedpmpaaGreatDoor
open Go.Shelf Go.RowKit Go.Sort
set_option maxRecDepth 100000
set_option maxHeartbeats 8000000
theorem bitLenAux_le:∀ f x,Lib.bitLenAux f x≤f
 | 0,_=>qb _
 | f+1,x=>by
  unfold Lib.bitLenAux;split
  ·omega
  ·have:=bitLenAux_le f (x / 2);omega
theorem bitLen_le64 (x:Nat):Lib.bitLen x≤64:=bitLenAux_le 64 x
theorem heap_sortWorld (w:World) (g m:Nat) (d:Array Int) (os:Array Obj) {cur:Array Value} {e:TypeId} {fz:Nat×Nat} (hlt:g<w.heap.size) (hg:w.heap[g]?=some (.cells cur e fz)) :
  (sortWorld uV w g 0 m d os).heap[g]?=some (.cells (putCells uV 0 d cur) e fz):=by
 show (w.heap.modify g _++os)[g]?=_;rw [jl (by simpa using hlt),Array.getElem?_modify,if_pos rfl,hg];rfl
theorem but_sortWorld (w:World) (g m:Nat) (d:Array Int) (os:Array Obj):But (fun b=>some g=some b) w (sortWorld uV w g 0 m d os):=by
 refine ⟨?_,rfl,rfl,rfl,fun b hb hne=>?_⟩
 ·show w.heap.size≤(w.heap.modify g _++os).size;simp
 ·show (w.heap.modify g _++os)[b]?=_;rw [jl (by simpa using hb),Array.getElem?_modify,if_neg (fun e=>hne (congrArg some e))]
theorem putCells_take (us:List Int) (d:Array Int) (cur:Array Value) (hd:d.size=us.length) (hc:us.length≤cur.size):(putCells uV 0 d cur).toList.take d.size=u64s d.toList:=by
 apply List.ext_getElem
 ·simp [putCells,u64s];omega
 ·intro i h1 h2;have hi:i<d.size:=by simpa [u64s] using h2
  simp [putCells,u64s,hi]
theorem permIn_whole {d d':Array Int} (h:PermIn 0 d.size d d'):d'.toList.Perm d.toList:=by
 have k:=h.2.2;rw [Array.extract_size] at k;rwa [show d'.extract 0 d.size=d' by rw [← h.1];exact Array.extract_size] at k
theorem sortedIn_whole {d:Array Int} (h:SortedIn uLt 0 d.size d):d.toList.Pairwise (·≤·):=by
 rw [zl];intro i j hi hj hij;have k:=h i j (qs _) hij (by simpa using hj);unfold uLt at k;have hi':i<d.size:=by simpa using hi
 have hj':j<d.size:=by simpa using hj
 rw [getElem!_pos d i hi',getElem!_pos d j hj',decide_eq_false_iff_not] at k;simpa using Int.not_lt.mp k
theorem sortU_any (us:List Int) (hl:us.length<4611686018427387904):SortU us:=by
 by_cases h0:us=[]
 ·rw [h0];exact sortU_nil
 intro B v w h;have hpos:0<us.length:=List.length_pos_iff.mpr h0;rcases h.2 with ⟨_,e0⟩|⟨g,cap,cur,rfl,hB,hg,hc1,hc2,hcs,htk⟩
 ·omega
 have hblk:g<w.heap.size:=by
  rcases zr g w.heap.size with k|k
  ·exact k
  ·rw [Array.getElem?_eq_none k] at hg;cases hg
 have R:Row1 uV w g 0 us.toArray:=by
  refine ⟨uOne,fun j hj=>⟨?_,?_⟩,hblk⟩
  ·have hj':j<us.length:=by simpa using hj
   rw [q9,za h j (by omega),getElem!_pos us.toArray j hj];simp [u64s,hj']
  ·exact zq h _
 have hc:=pdqU g 0 cap us.toArray w R (us.length+1) 0 us.length (Lib.bitLen us.length) us.toArray w (by omega) rfl (SW.start R.hH) (qs _) (by simp) (by simpa using hl) (by have:=bitLen_le64 us.length;omega) (Or.inl rfl);obtain ⟨hp,hs⟩:=pdq_sorts uLt uSwo us.toArray 0 us.length (Lib.bitLen us.length) true true (qs _) (by simp) (Or.inl rfl);generalize hx:pdq uLt us.toArray 0 us.length (Lib.bitLen us.length) true true=dx at hc hp hs;have hsz:dx.size=us.length:=by rw [hp.1];simp
 rw [show us.toArray.size=us.length by simp] at hc;rw [show ((0:Nat):Int)=0 from rfl] at hc;have HC:=vg hc;have HX:=vg (qd hp (qd hs (qd h (qd R hx))));have HG:=vg (qd hg (qd hcs htk));clear hc hp hs h R hx hg hcs htk h0;go_enter Tryz.func220,Tryz.ntmps220
 go_wp2_with (first
  | (go_at_call 267;refine (sh_bits_Len us.length _ (by omega) (by omega)).mono ?_;rintro e w1 ⟨rfl,rfl⟩;(try simp only [Int.toNat_natCast]))
  | (go_at_call 270;refine HC.out.mono ?_;rintro e w1 ⟨rfl,q1⟩;have Q1:=vg q1;clear q1))
 go_end0;obtain ⟨n,os,rfl⟩:=Q1.out;obtain ⟨hp,hs,h,R,_⟩:=HX.out;obtain ⟨hg,hcs,htk⟩:=HG.out;refine ⟨rfl,dx.toList,?_,?_,?_,but_sortWorld _ _ _ _ _⟩
 ·have:=permIn_whole (d:=us.toArray) (by simpa using hp);simpa using this
 ·exact sortedIn_whole (by rw [hsz];exact hs)
 ·have hln:dx.toList.length=us.length:=by rw [yo];exact hsz
  refine ⟨by simp [u64s],Or.inr ⟨g,cap,_,by rw [hln],hB,heap_sortWorld _ _ _ _ _ hblk hg,by rw [hln];exact hc1,hc2,by simpa [putCells] using hcs,?_⟩⟩;rw [yo,Nat.mul_one];exact putCells_take us dx cur hsz (by omega)

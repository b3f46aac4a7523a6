import Derived.Test.YtgccjefbedpmpaaGreatDoorYWPack
import Derived.Deep.Slices
import Derived.SizedLaws
import Derived.Laws.IdiomArrays
namespace Go.Proofs.YtgccjefbedpmpaaGreatDoor
open Go.ChangeShapes Go.WideShapes Go.RowKit Go.Deep
set_option maxRecDepth 100000
set_option maxHeartbeats 8000000
section
variable {H : Type} {enc : TypeId × Value → H} {P : Program} {w : World} {base : Nat} {spare : Nat → Bool} {held : Bool}
theorem weights_mem_all {e:TypeId}:∀ {ds:List (DataW H)} {d:DataW H},d∈ds→∀ n∈d.weights P e,n∈DataW.weightsAll P e ds
 | _::_,_,.head _,n,hn=>by rw [DataW.weightsAll];exact List.mem_append_left _ hn
 | _::r,_,.tail _ h,n,hn=>by rw [DataW.weightsAll];exact List.mem_append_right _ (weights_mem_all h n hn)
theorem field_one {t:TypeId} {fs:Array Field} {fuel:Nat} {cs:List Value} {x:DataW H×List MemPlace} (ht:P.underlying t=some (.struct fs)) (h:DataW.trod enc P w base spare held fuel t cs=some x)
  {i:Nat} {f:Field} (hf:fs[i]?=some f) (h1:P.cellsOf f.type=1) {v:Value} (hv:cs[f.offset]?=some v) :
  ∃ y n parts,DataW.trod enc P w base spare held n f.type [v]=some y∧x.1=.agg parts∧parts[i]?=some y.1:=by
 obtain ⟨xs,n,rfl,rfl,_,hl,hall⟩:=DataW.trod_struct ht h
 have hx:=hall i f hf
 rw [h1] at hx
 have e:(cs.drop f.offset).take 1=[v]:=by
  rw [List.drop_eq_getElem?_toList_append,hv];rfl
 rw [e] at hx
 have hi:i<xs.length:=by rw [hl];exact (Array.getElem?_eq_some_iff.1 hf).1
 rw [List.getElem?_eq_getElem hi] at hx
 exact ⟨xs[i],n,_,hx,rfl,by simp [hi]⟩
theorem field_sub {t:TypeId} {fs:Array Field} {fuel:Nat} {cs:List Value} {x:DataW H×List MemPlace} (ht:P.underlying t=some (.struct fs)) (h:DataW.trod enc P w base spare held fuel t cs=some x)
  {i:Nat} {f:Field} (hf:fs[i]?=some f) :
  ∃ y n,DataW.trod enc P w base spare held n f.type ((cs.drop f.offset).take (P.cellsOf f.type))=some y:=by
 obtain ⟨xs,n,rfl,rfl,_,hl,hall⟩:=DataW.trod_struct ht h
 have hi:i<xs.length:=by rw [hl];exact (Array.getElem?_eq_some_iff.1 hf).1
 exact ⟨xs[i],n,by rw [hall i f hf,List.getElem?_eq_getElem hi]⟩
end
def OpIs (f:Nat→Value):Prop:=(∃ k:Int,f 0=.int .i64 k)∧(∃ s:ByteArray,f 3=.string s∧s.size≤140737488351232)∧(∃ c:Int,f 14=.int .u32 c∧W32 c)∧∃ a:Int,f 18=.int .u32 a∧W32 a
section
variable {H : Type} {enc : TypeId × Value → H} {w : World} {base : Nat} {spare : Nat → Bool} {held : Bool}
theorem wf32 {n:Int} (h:(Lit.int .u32 n).wf=true):W32 n:=by
 simp only [Lit.wf,decide_eq_true_eq,Bool.and_eq_true] at h
 have e1:IntKind.u32.min=0:=rfl
 have e2:IntKind.u32.max=4294967295:=rfl
 rw [e1,e2] at h
 exact ⟨by omega,by omega⟩
theorem add_none (b o n:Nat):(⟨b,o,none⟩:Addr).add n=⟨b,o+n,none⟩:=by
 unfold Addr.add
 split
 ·rename_i h;subst h;rfl
 ·rfl
theorem op_open {fuel:Nat} {cs:List Value} {x:DataW H×List MemPlace} (h:DataW.trod enc Tryz.prog w base spare held fuel 85 cs=some x) (hl:cs.length=23) (hw:∀ n∈x.1.weights Tryz.prog 85,n≤reachBytes) :
  OpIs fun j=>cs[j]?.getD .nilFunc:=by
 have hg:∀ j,j<23→cs[j]?=some (cs[j]?.getD .nilFunc):=fun j hj=>by rw [List.getElem?_eq_getElem (by omega)];rfl
 refine ⟨?_,?_,?_,?_⟩
 ·obtain ⟨y,n,parts,h1,_,_⟩:=field_one (i:=0) Tryz.underlying85 h rfl (by kernel_rfl) (hg 0 (by decide))
  obtain ⟨k,e,_,_⟩:=DataW.trod_int Tryz.underlying3 h1
  exact ⟨k,(List.cons.inj e).1⟩
 ·obtain ⟨y,n,parts,h1,h2,h3⟩:=field_one (i:=3) Tryz.underlying85 h rfl (by kernel_rfl) (hg 3 (by decide))
  obtain ⟨s,e,h4,_⟩:=DataW.trod_string Tryz.underlying9 h1
  refine ⟨s,(List.cons.inj e).1,?_⟩
  have hm:s.data.toList.length∈x.1.weights Tryz.prog 85:=by
   rw [h2]
   unfold DataW.weights
   rw [Tryz.underlying85]
   refine DataW.weights_mem_each (j:=3) (t:=9) rfl h3 _ ?_
   rw [h4];simp [DataW.weights]
  have:=hw _ hm
  simpa [reachBytes] using this
 ·obtain ⟨y,n,h1⟩:=field_sub (i:=5) Tryz.underlying85 h rfl
  obtain ⟨z,m,parts,h2,_,_⟩:=field_one (i:=2) (v:=cs[14]?.getD .nilFunc) Tryz.underlying43 h1 rfl (by kernel_rfl) (by
   show ((cs.drop 12).take (Tryz.prog.cellsOf 43))[2]?=_
   rw [show Tryz.prog.cellsOf 43=6 from by kernel_rfl,List.getElem?_take_of_lt (by decide),List.getElem?_drop]
   exact hg 14 (by decide))
  obtain ⟨k,e,_,e3⟩:=DataW.trod_int Tryz.underlying39 h2
  exact ⟨k,(List.cons.inj e).1,wf32 e3⟩
 ·obtain ⟨y,n,parts,h1,_,_⟩:=field_one (i:=6) Tryz.underlying85 h rfl (by kernel_rfl) (hg 18 (by decide))
  obtain ⟨k,e,_,e3⟩:=DataW.trod_int Tryz.underlying39 h1
  exact ⟨k,(List.cons.inj e).1,wf32 e3⟩
end
section
variable {H : Type} {enc : TypeId × Value → H} {w : World} {base : Nat} {spare : Nat → Bool} {held : Bool}
theorem field_sub2 {P:Program} {t:TypeId} {fs:Array Field} {fuel:Nat} {cs:List Value} {x:DataW H×List MemPlace} (ht:P.underlying t=some (.struct fs)) (h:DataW.trod enc P w base spare held fuel t cs=some x)
  {i:Nat} {f:Field} (hf:fs[i]?=some f) {c:Nat} (hc:P.cellsOf f.type=c) :
  ∃ y n parts,DataW.trod enc P w base spare held n f.type ((cs.drop f.offset).take c)=some y∧x.1=.agg parts∧parts[i]?=some y.1:=by
 obtain ⟨xs,n,rfl,rfl,_,hl,hall⟩:=DataW.trod_struct ht h
 have hi:i<xs.length:=by rw [hl];exact (Array.getElem?_eq_some_iff.1 hf).1
 exact ⟨xs[i],n,_,by rw [← hc,hall i f hf,List.getElem?_eq_getElem hi],rfl,by simp [hi]⟩
theorem wfk {k:IntKind} {n:Int} (h:(Lit.int k n).wf=true):k.min≤n∧n≤k.max:=by
 simpa only [Lit.wf,decide_eq_true_eq,Bool.and_eq_true] using h
theorem kb64 {n:Int} (h:IntKind.i64.min≤n∧n≤IntKind.i64.max):-9223372036854775808≤n∧n≤9223372036854775807:=h
theorem kb32 {n:Int} (h:IntKind.u32.min≤n∧n≤IntKind.u32.max):0≤n∧n<4294967296:=by
 have h':(0:Int)≤n∧n≤4294967295:=h
 omega
theorem kbu64 {n:Int} (h:IntKind.u64.min≤n∧n≤IntKind.u64.max):0≤n∧n<18446744073709551616:=by
 have h':(0:Int)≤n∧n≤18446744073709551615:=h
 omega
theorem kbi32 {n:Int} (h:IntKind.i32.min≤n∧n≤IntKind.i32.max):-2147483648≤n∧n≤2147483647:=h
theorem field_int {P:Program} {t:TypeId} {fs:Array Field} {fuel:Nat} {cs:List Value} {x:DataW H×List MemPlace} (ht:P.underlying t=some (.struct fs)) (h:DataW.trod enc P w base spare held fuel t cs=some x)
  {i:Nat} {f:Field} (hf:fs[i]?=some f) (h1:P.cellsOf f.type=1) {k:IntKind} (hk:P.underlying f.type=some (.int k)) (hv:f.offset<cs.length):∃ n:Int,cs[f.offset]?=some (.int k n)∧k.min≤n∧n≤k.max:=by
 obtain ⟨y,m,parts,h2,_,_⟩:=field_one (v:=cs[f.offset]) ht h hf h1 (List.getElem?_eq_getElem hv)
 obtain ⟨n,e,_,e3⟩:=DataW.trod_int hk h2
 exact ⟨n,by rw [List.getElem?_eq_getElem hv,(List.cons.inj e).1],wfk e3⟩
theorem aop_open {fuel:Nat} {cs:List Value} {x:DataW H×List MemPlace} (h:DataW.trod enc Tryz.prog w base spare held fuel 43 cs=some x) (hl:cs.length=6):∃ o:Opn,OpT o∧∀ j,j<6→cs[j]?=some (opV o j):=by
 obtain ⟨n0,e0,b0⟩:=field_int (i:=0) Tryz.underlying43 h rfl (by kernel_rfl) (k:=.i64) (by kernel_rfl) (by rw [hl];decide)
 obtain ⟨n1,e1,b1⟩:=field_int (i:=1) Tryz.underlying43 h rfl (by kernel_rfl) (k:=.u32) (by kernel_rfl) (by rw [hl];decide)
 obtain ⟨n2,e2,b2⟩:=field_int (i:=2) Tryz.underlying43 h rfl (by kernel_rfl) (k:=.u32) (by kernel_rfl) (by rw [hl];decide)
 obtain ⟨n3,e3,b3⟩:=field_int (i:=3) Tryz.underlying43 h rfl (by kernel_rfl) (k:=.u32) (by kernel_rfl) (by rw [hl];decide)
 obtain ⟨n4,e4,b4⟩:=field_int (i:=4) Tryz.underlying43 h rfl (by kernel_rfl) (k:=.u64) (by kernel_rfl) (by rw [hl];decide)
 obtain ⟨n5,e5,b5⟩:=field_int (i:=5) Tryz.underlying43 h rfl (by kernel_rfl) (k:=.i32) (by kernel_rfl) (by rw [hl];decide)
 refine ⟨⟨n0,n1,n2,n3,n4,n5⟩,⟨kb64 b0,kb32 b1,kb32 b2,kb32 b3,kbu64 b4,kbi32 b5⟩,fun j hj=>?_⟩
 ·match j,hj with
  | 0,_=>exact e0
  | 1,_=>exact e1
  | 2,_=>exact e2
  | 3,_=>exact e3
  | 4,_=>exact e4
  | 5,_=>exact e5
end
end Go.Proofs.YtgccjefbedpmpaaGreatDoor

import Derived.Test.YtgccjefbedpmpaaGreatDoorYWPack
import Derived.Deep.Slices
import Derived.SizedLaws
import Derived.Laws.IdiomArrays
namespace Go.Proofs.YtgccjefbedpmpaaGreatDoor
open Go.ChangeShapes Go.WideShapes Go.RowKit Go.Deep
set_option maxRecDepth 100000
set_option maxHeartbeats 8000000
variable {cs : List Value} {fuel i : Nat} {n : Int}
section
variable {H : Type} {enc : TypeId × Value → H} {P : Program} {w : World} {base : Nat} {spare : Nat → Bool} {held : Bool}
theorem field_one {t:TypeId} {fs:Array Field} {x:DataW H×List MemPlace} (ht:P.underlying t=some (.struct fs)) (h:DataW.trod enc P w base spare held fuel t cs=some x) {f:Field} (hf:fs[i]?=some f) (h1:P.cellsOf f.type=1) {v:Value} (hv:cs[f.offset]?=some v) :
  ∃ y n parts,DataW.trod enc P w base spare held n f.type [v]=some y∧x.1=.agg parts∧parts[i]?=some y.1:=by
 obtain ⟨xs,n,rfl,rfl,_,hl,hall⟩:=DataW.trod_struct ht h;have hx:=hall i f hf;rw [h1] at hx
 have e:(cs.drop f.offset).take 1=[v]:=by
  rw [List.drop_eq_getElem?_toList_append,hv];rfl
 rw [e] at hx;have hi:i<xs.length:=by rw [hl];exact (zf.1 hf).1
 rw [qk hi] at hx;exact ⟨xs[i],n,_,hx,rfl,by simp [hi]⟩
end
section
variable {H : Type} {enc : TypeId × Value → H} {w : World} {base : Nat} {spare : Nat → Bool} {held : Bool}
theorem add_none (b o n:Nat):((Ad b o):Addr).add n=⟨b,o+n,none⟩:=by
 unfold Addr.add;split
 ·rename_i h;subst h;rfl
 ·rfl
end
section
variable {H : Type} {enc : TypeId × Value → H} {w : World} {base : Nat} {spare : Nat → Bool} {held : Bool}
theorem wfk {k:IntKind} (h:(Lit.int k n).wf=true):k.min≤n∧n≤k.max:=by
 simpa only [Lit.wf,decide_eq_true_eq,qx] using h
theorem kb64 (h:IntKind.i64.min≤n∧n≤IntKind.i64.max):-9223372036854775808≤n∧n≤9223372036854775807:=h
theorem field_int {P:Program} {t:TypeId} {fs:Array Field} {x:DataW H×List MemPlace} (ht:P.underlying t=some (.struct fs)) (h:DataW.trod enc P w base spare held fuel t cs=some x) {f:Field} (hf:fs[i]?=some f) (h1:P.cellsOf f.type=1) {k:IntKind} (hk:P.underlying f.type=some (.int k)) (hv:f.offset<cs.length):∃ n:Int,cs[f.offset]?=some (.int k n)∧k.min≤n∧n≤k.max:=by
 obtain ⟨y,m,parts,h2,_,_⟩:=field_one (v:=cs[f.offset]) ht h hf h1 (qk hv);obtain ⟨n,e,_,e3⟩:=DataW.trod_int hk h2;exact ⟨n,by rw [qk hv,(kj e).1],wfk e3⟩
end

import Derived.Test.YtgccjefbedpmpaaGreatDoorYWit
import Derived.Test.YtgccjefbedpmpaaGreatDoorProg
import Derived.Deep.RegionHeld3
import Derived.Deep.MidRow
import Derived.Below
namespace Go.Proofs.YtgccjefbedpmpaaGreatDoor
open Go.RowKit
set_option maxRecDepth 100000
set_option maxHeartbeats 8000000
variable {a : Act} {fuel : Nat} {l l' : List Value} {v : Value}
theorem Qc {α:Type} (l:List α) (i:Nat) (a:α):l.toArray.setIfInBounds i a=(l.set i a).toArray:=by simp
theorem Qb {α:Type} (a b:α) (l:List α):(a::l).set 0 b=b::l:=rfl
theorem Qa {α:Type} (a b:α) (l:List α) (n:Nat):(a::l).set (n+1) b=a::l.set n b:=rfl
theorem aI {a b:Prop} (x:a) (y:b):a∧b:=⟨x,y⟩
section
variable {P : Program} {md : Region.Mode} {ops : Array Oper} {Q : Exit → Act → World → Prop} {S : World → Prop}
theorem tk (i d:Nat) {op:Op} {ty:TypeId} {ps:String} {af:Array Edge} {gd:Option (Nat×Bool)} {listed:Array Bool} {w:World} (hi:ops[i]?=some { dst:=some d,op:=op,type:=ty,pos:=ps,after:=af,guard:=gd })
  (hy:YieldsIf P ops S { dst:=some d,op:=op,type:=ty,pos:=ps,after:=af,guard:=gd } v a) (hS:S w) (h:wpAnyH P md ops Q S fuel (listed.setIfInBounds i true) (a.put (some d) v) w)
  (hs:Region.noSelect ops=true:=by kernel_rfl) (hf:Region.free md ops listed i=true:=by kernel_rfl) (hr:(Region.ready md ops listed).contains i=true:=by kernel_rfl)
  (hQ:∀ c a w,Q (.panic c) (a.put (some d) v) w→Q (.panic c) a w:=by exact fun _ _ _ h=>h):wpAnyH P md ops Q S (fuel+1) listed a w:=
 wpAnyH_take hi hs hf hr hQ hy hS h
theorem rd (i:Nat) (d:Option Tmp) {op:Op} {ty:TypeId} {ps:String} {af:Array Edge} {gd:Option (Nat×Bool)} {listed:Array Bool} {w:World} (hi:ops[i]?=some { dst:=d,op:=op,type:=ty,pos:=ps,after:=af,guard:=gd })
  (h:∀ K':Act→World→Prop,Shut (∀ a w,S w→(S w→wpAnyH P md ops Q S fuel (listed.setIfInBounds i true) a w)→K' a w)→if Region.wanted { dst:=d,op:=op,type:=ty,pos:=ps,after:=af,guard:=gd } (yielded ops a.tmps)=true then Oper.wp P { dst:=d,op:=op,type:=ty,pos:=ps,after:=af,guard:=gd } a w K' Q else K' (a.put d undef) w)
  (hr:Region.ready md ops listed=[i]:=by kernel_rfl):wpAnyH P md ops Q S (fuel+1) listed a w:=
 wpAnyH_ready hr (by simp) (AllReadyH.cons hi h AllReadyH.nil)
theorem rd2 (i:Nat) (d:Option Tmp) (j:Nat) (e:Option Tmp) {op op2:Op} {ty ty2:TypeId} {ps ps2:String} {af af2:Array Edge} {gd gd2:Option (Nat×Bool)} {listed:Array Bool} {w:World} (hi:ops[i]?=some { dst:=d,op:=op,type:=ty,pos:=ps,after:=af,guard:=gd }) (hj:ops[j]?=some { dst:=e,op:=op2,type:=ty2,pos:=ps2,after:=af2,guard:=gd2 })
  (h:∀ K':Act→World→Prop,Shut (∀ a w,S w→(S w→wpAnyH P md ops Q S fuel (listed.setIfInBounds i true) a w)→K' a w)→if Region.wanted { dst:=d,op:=op,type:=ty,pos:=ps,after:=af,guard:=gd } (yielded ops a.tmps)=true then Oper.wp P { dst:=d,op:=op,type:=ty,pos:=ps,after:=af,guard:=gd } a w K' Q else K' (a.put d undef) w)
  (k:∀ K':Act→World→Prop,Shut (∀ a w,S w→(S w→wpAnyH P md ops Q S fuel (listed.setIfInBounds j true) a w)→K' a w)→if Region.wanted { dst:=e,op:=op2,type:=ty2,pos:=ps2,after:=af2,guard:=gd2 } (yielded ops a.tmps)=true then Oper.wp P { dst:=e,op:=op2,type:=ty2,pos:=ps2,after:=af2,guard:=gd2 } a w K' Q else K' (a.put e undef) w)
  (hr:Region.ready md ops listed=[i,j]:=by kernel_rfl):wpAnyH P md ops Q S (fuel+1) listed a w:=
 wpAnyH_ready hr (by simp) (AllReadyH.cons hi h (AllReadyH.cons hj k AllReadyH.nil))
theorem ks (i d:Nat) {op:Op} {ty:TypeId} {ps:String} {af:Array Edge} {gd:Option (Nat×Bool)} {listed:Array Bool} {df:List Deferred} {w:World} (h:wpAnyH P md ops Q S fuel (listed.setIfInBounds i true) ⟨l'.toArray,df⟩ w)
  (hS:S w:=by assumption) (hi:ops[i]?=some { dst:=some d,op:=op,type:=ty,pos:=ps,after:=af,guard:=gd }:=by rfl) (hw:Region.wanted { dst:=some d,op:=op,type:=ty,pos:=ps,after:=af,guard:=gd } (yielded ops l.toArray)=true:=by rfl)
  (hv:∀ w,S w→(execOp (Act.eval ⟨l.toArray,df⟩) { dst:=some d,op:=op,type:=ty,pos:=ps,after:=af,guard:=gd }).run P w=.ok (.value v) w:=by (intro w hS;go_simp;rfl)) (hl:l.set d v=l':=by (simp only [Qb,Qa];rfl))
  (hs:Region.noSelect ops=true:=by kernel_rfl) (hf:Region.free md ops listed i=true:=by kernel_rfl) (hr:(Region.ready md ops listed).contains i=true:=by kernel_rfl)
  (hQ:∀ c a w,Q (.panic c) (a.put (some d) v) w→Q (.panic c) a w:=by exact fun _ _ _ h=>h):wpAnyH P md ops Q S (fuel+1) listed ⟨l.toArray,df⟩ w:=
 wpAnyH_take hi hs hf hr hQ (Or.inl ⟨hw,hv⟩) hS (by
  have e:(Act.mk l.toArray df).put (some d) v=⟨l'.toArray,df⟩:=by rw [← hl,← Qc];rfl
  rw [e];exact h)
theorem x9 (i d:Nat) {F:World→Prop} {op:Op} {ty:TypeId} {ps:String} {af:Array Edge} {gd:Option (Nat×Bool)} {listed:Array Bool} {df:List Deferred} {w:World} (hF:∀ w,S w→F w) (h:wpAnyH P md ops Q S fuel (listed.setIfInBounds i true) ⟨l'.toArray,df⟩ w)
  (hS:S w:=by assumption) (hi:ops[i]?=some { dst:=some d,op:=op,type:=ty,pos:=ps,after:=af,guard:=gd }:=by rfl) (hw:Region.wanted { dst:=some d,op:=op,type:=ty,pos:=ps,after:=af,guard:=gd } (yielded ops l.toArray)=true:=by rfl)
  (hv:∀ w,S w→F w→(execOp (Act.eval ⟨l.toArray,df⟩) { dst:=some d,op:=op,type:=ty,pos:=ps,after:=af,guard:=gd }).run P w=.ok (.value v) w:=by (intro w hS hF;(try simp only [q9] at hF);go_simp;rfl)) (hl:l.set d v=l':=by (simp only [Qb,Qa];rfl))
  (hs:Region.noSelect ops=true:=by kernel_rfl) (hf:Region.free md ops listed i=true:=by kernel_rfl) (hr:(Region.ready md ops listed).contains i=true:=by kernel_rfl)
  (hQ:∀ c a w,Q (.panic c) (a.put (some d) v) w→Q (.panic c) a w:=by exact fun _ _ _ h=>h):wpAnyH P md ops Q S (fuel+1) listed ⟨l.toArray,df⟩ w:=
 wpAnyH_take hi hs hf hr hQ (Or.inl ⟨hw,fun w h=>hv w h (hF w h)⟩) hS (by
  have e:(Act.mk l.toArray df).put (some d) v=⟨l'.toArray,df⟩:=by rw [← hl,← Qc];rfl
  rw [e];exact h)
theorem wF {F F':World→Prop} {listed:Array Bool} {w:World} (f:∀ w,S w→F w) (k:Hid (∀ w,S w→F' w)→wpAnyH P md ops Q S fuel listed a w) (hF:∀ w,F w=F' w:=by (intro w;(try simp only [q9]);rfl)):wpAnyH P md ops Q S fuel listed a w:=
 k fun w h=>hF w▸f w h
theorem tku (i d:Nat) {op:Op} {ty:TypeId} {ps:String} {af:Array Edge} {gd:Option (Nat×Bool)} {listed:Array Bool} {df:List Deferred} {w:World} (h:wpAnyH P md ops Q S fuel (listed.setIfInBounds i true) ⟨l'.toArray,df⟩ w)
  (hS:S w:=by assumption) (hi:ops[i]?=some { dst:=some d,op:=op,type:=ty,pos:=ps,after:=af,guard:=gd }:=by rfl) (hw:Region.wanted { dst:=some d,op:=op,type:=ty,pos:=ps,after:=af,guard:=gd } (yielded ops l.toArray)=false:=by rfl) (hl:l.set d undef=l':=by (simp only [Qb,Qa];rfl))
  (hs:Region.noSelect ops=true:=by kernel_rfl) (hf:Region.free md ops listed i=true:=by kernel_rfl) (hr:(Region.ready md ops listed).contains i=true:=by kernel_rfl)
  (hQ:∀ c a w,Q (.panic c) (a.put (some d) undef) w→Q (.panic c) a w:=by exact fun _ _ _ h=>h):wpAnyH P md ops Q S (fuel+1) listed ⟨l.toArray,df⟩ w:=
 wpAnyH_take hi hs hf hr hQ (Or.inr ⟨hw,rfl⟩) hS (by
  have e:(Act.mk l.toArray df).put (some d) undef=⟨l'.toArray,df⟩:=by rw [← hl,← Qc];rfl
  rw [e];exact h)
theorem rdg (i:Nat) (d:Option Tmp) {op:Op} {ty:TypeId} {ps:String} {af:Array Edge} {gd:Option (Nat×Bool)} {listed:Array Bool} {df:List Deferred} {w:World} (h:wpAnyH P md ops Q S fuel (listed.setIfInBounds i true) ⟨l'.toArray,df⟩ w) (hS:S w:=by assumption) (hi:ops[i]?=some { dst:=d,op:=op,type:=ty,pos:=ps,after:=af,guard:=gd }:=by rfl)
  (hv:∀ K:Act→World→Prop,K ⟨l'.toArray,df⟩ w→if Region.wanted { dst:=d,op:=op,type:=ty,pos:=ps,after:=af,guard:=gd } (yielded ops l.toArray)=true then Oper.wp P { dst:=d,op:=op,type:=ty,pos:=ps,after:=af,guard:=gd } ⟨l.toArray,df⟩ w K Q else K ((Act.mk l.toArray df).put d undef) w:=by (intro K hK;go_simp;exact hK)) (hr:Region.ready md ops listed=[i]:=by kernel_rfl):wpAnyH P md ops Q S (fuel+1) listed ⟨l.toArray,df⟩ w:=
 rd i d hi (fun K hK=>hv K (hK.out _ _ hS fun _=>h)) hr
theorem xy {listed:Array Bool} {w:World} (h:Q .normal a w) (hr:Region.ready md ops listed=[]:=by kernel_rfl):wpAnyH P md ops Q S fuel listed a w:=wpAnyH_done hr h fuel
end

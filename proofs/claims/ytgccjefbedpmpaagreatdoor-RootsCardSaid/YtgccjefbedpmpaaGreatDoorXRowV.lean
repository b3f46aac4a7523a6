import Derived.Test.YtgccjefbedpmpaaGreatDoorXEnvL
import Derived.Test.YtgccjefbedpmpaaGreatDoorXFreeN
import Derived.Test.YtgccjefbedpmpaaGreatDoorXGoes
namespace Go.Proofs.YtgccjefbedpmpaaGreatDoor
open Go.ChangeShapes Go.WideShapes Go.ChangeAt Go.RowKit
set_option maxRecDepth 100000
set_option maxHeartbeats 8000000
theorem laidOutV:laidOutB Tryz.prog=true:=by kernel_rfl
theorem readsV (os:Os) {H:Type} (enc:TypeId×Value→H):∃ places,DataW.whole enc Tryz.prog ((laidWorld Tryz.prog os).forCall (fun _ _=>0) ⟨#[],#[.slice none 0 0],[]⟩).memory Tryz.f6.params.toList Rows.rootsSpec.vars false #[Value.slice none 0 0].toList 8=some ([.nil],[],places):=
 ⟨[],by kernel_rfl⟩
def RootsFact:Prop:=∀ (a:Option Addr) (n cap:Nat) (w:World) (f:Nat→Nat→Value),n*184≤140737488351232→(∀ i,i<n→∃ g off,a=some ⟨g,off,none⟩∧(∀ j,j<23→w.cell? ⟨g,off+i*23+j,none⟩=some (f i j))∧OpIs (f i)∧OpP (f i))→Env w→15≤w.heap.size →
 Calls Tryz.prog 6 #[.slice a n cap] w fun e w'=>e=.returned (.bool true)∧Below w.heap.size w w'
theorem contractV (hX:RootsFact) (H:Type) (enc:TypeId×Value→H) (W:World) (base:Nat) (args:Array Value) (ds gs:List (DataW H)) (before:List MemPlace)
  (hval:∀ (j:Nat) t v,Tryz.f6.params[j]?=some t→args[j]?=some v→Value.okWide Tryz.prog W .any base t v)
  (hW:DataW.Whole enc Tryz.prog Tryz.f6.params.toList Rows.rootsSpec.vars false W args.toList ds gs before)
  (hsz:(DataW.weightsEach Tryz.prog (Tryz.f6.params.toList++(OpenSpec.ofChange Rows.rootsSpec).bare.plain.varTypes Tryz.prog) (ds++gs)).all (·≤reachBytes)=true) (hL:laidMetH Tryz.prog Rows.rootsRow.laid W) (hSh:W.ShapedOpen Tryz.prog) :
  Calls Tryz.prog 6 args W fun e W'=>∃ v,e=.returned v∧Rows.rootsSpec.post enc Tryz.prog Tryz.f6 false true false false W args v W':=by
 have hW':=hW
 obtain ⟨p,q,hA0,hV,rfl,hfz,hnd⟩:=hW
 have hA:DataW.TrodAll enc Tryz.prog W 0 (fun _=>true) true Tryz.f6.params.toList args.toList ds p:=hA0
 rw [Tryz.params6] at hA hval hsz
 obtain ⟨v0,vs0,d0,ds0,p0,q0,hargs,rfl,rfl,h0,r0⟩:=trodAll_cons hA
 obtain ⟨rfl,rfl,rfl⟩:=trodAll_nil r0
 obtain rfl:args=#[v0]:=by cases args;simp_all
 obtain ⟨rfl,rfl⟩:=trodVars_none hV
 clear hA0
 simp only [List.append_nil] at hW' hsz
 have hlt:∀ x∈p0,x.block<W.heap.size:=fun x hx=>hW'.lt x hx
 have hwt:∀ n∈d0.weights Tryz.prog 22,n≤reachBytes:=fun n hn=>by
  have:=List.all_eq_true.1 hsz n (DataW.weights_mem_each (j:=0) (t:=22) rfl rfl n hn)
  simpa using this
 have hEn:=env_of hL
 have hg9:=globals_of hSh
 have hs:=okWide_slice Tryz.underlying22 (hval 0 22 v0 rfl rfl)
 have walk:Calls Tryz.prog 6 #[v0] W fun e w'=>e=.returned (.bool true)∧Below W.heap.size W w':=by
  rcases script_openW h0 hs hwt with ⟨a,cap,rfl⟩|⟨g,off,len,cap,f,rfl,hn,hS⟩
  ·exact hX a 0 cap W (fun _ _=>.nilFunc) (by decide) (fun i hi=>absurd hi (by omega)) hEn hg9
  ·exact hX _ len cap W f hn (fun i hi=>⟨g,off,rfl,(hS i hi).1,(hS i hi).2⟩) hEn hg9
 refine walk.mono fun e W' ⟨he,bel⟩=>?_
 subst he
 refine ⟨_,rfl,_,_,_,[],p0,[],hW',?_,?_,?_,bel.frame _,fun h=>by cases h⟩
 ·exact trodAll_mk1 (shut_bool Tryz.underlying4 true)
 ·exact trodAll_mk1 (Below.trod laidOutV (by kernel_rfl) (of_decide_eq_true (by kernel_rfl)) h0 bel hlt)
 ·rfl
theorem liftedV (hX:RootsFact) (os:Os) (started:os.Started) (H:Type) (enc:TypeId×Value→H) (F:Stop.Interp) :
  ReturnsInHanded {} Tryz.checked os 6 .any ((OpenSpec.ofChange Rows.rootsSpec).preRow enc Tryz.prog Tryz.f6 Rows.rootsRow.domain false Rows.rootsRow.laid) (((OpenSpec.ofChange Rows.rootsSpec).at F).post enc Tryz.prog Tryz.f6 false true false false):=by
 obtain ⟨places,hx⟩:=readsV os enc
 refine returnsInHanded_of_row (C:=Tryz.checked) (s:=OpenSpec.ofChange Rows.rootsSpec) own started (by kernel_rfl) Tryz.func6
  (witness_row_atRef (enc:=enc) (C:=Tryz.checked) false (laidWorld Tryz.prog os) #[.slice none 0 0] rfl (by kernel_rfl) (by kernel_rfl) (by kernel_rfl)
   (OpenSpec.preRow_of_cond 8 hx (by kernel_rfl) (fun k hk=>by cases hk) (by kernel_rfl) (laid_met os _))) ?_
 intro W base args ds gs before hval hW _ _ hsz hL hSh _
 exact contractV hX H enc W base args ds gs before hval hW hsz hL hSh
theorem plainV (f:FuncId) (fn:Func) (hf:Tryz.pinned.checked.prog.funcNamed Rows.rootsRow.func=some f) (hfn:Tryz.pinned.checked.prog.funcs[f]?=some fn) :
  true=Tryz.pinned.checked.prog.looks []∧∀ (j:Nat) t,fn.params[j]?=some t→Tryz.pinned.checked.prog.wantsStandIn t=false:=by
 obtain rfl:f=6:=Option.some.inj ((show Tryz.prog.funcNamed Rows.rootsRow.func=some 6 by kernel_rfl).symm.trans hf) |>.symm
 obtain rfl:fn=Tryz.f6:=(Option.some.inj (Tryz.func6.symm.trans hfn)).symm
 refine ⟨by kernel_rfl,fun j t ht=>?_⟩
 rw [Tryz.params6] at ht
 obtain rfl:t=22:=by simpa using Array.mem_of_getElem? ht
 exact (show Tryz.prog.wantsStandIn 22=false by kernel_rfl)
theorem kw0:(Rows.rootsRow.wf (OpenSpec.ofChange (OpenSpec.ofChange Rows.rootsSpec).bare):Bool)=true:=by kernel_rfl
theorem kw4:(namedTie Tryz.prog Rows.rootsRow.named (OpenSpec.ofChange Rows.rootsSpec).bare.vars:Bool)=true:=by kernel_rfl
theorem kw13:((Rows.rootsRow.maps==(Tryz.f6.params.toList++(OpenSpec.ofChange Rows.rootsSpec).bare.plain.varTypes Tryz.prog).any (Tryz.prog.mapsRec ·)):Bool)=true:=by kernel_rfl
theorem kw14:((Rows.rootsRow.ifaces==(Tryz.f6.params.toList++(OpenSpec.ofChange Rows.rootsSpec).bare.plain.varTypes Tryz.prog).any (Tryz.prog.ifacesRec ·)):Bool)=true:=by kernel_rfl
theorem kw16:((Rows.rootsRow.loops==(Tryz.f6.params.toList++(OpenSpec.ofChange Rows.rootsSpec).bare.plain.varTypes Tryz.prog).any (Tryz.prog.loopsFrom ·)):Bool)=true:=by kernel_rfl
theorem kw17:((Rows.rootsRow.wideKeys==(Tryz.f6.params.toList++(OpenSpec.ofChange Rows.rootsSpec).bare.plain.varTypes Tryz.prog++Tryz.f6.resultTypes.toList).any (Tryz.prog.wideKeysFrom ·)):Bool)=true:=by kernel_rfl
theorem kw18:((OpenSpec.ofChange Rows.rootsSpec).bare.vars.all (Tryz.prog.varReadable ·):Bool)=true:=by kernel_rfl
theorem kw30:((Rows.rootsRow.veiled==(Tryz.f6.params.toList++(OpenSpec.ofChange Rows.rootsSpec).bare.plain.varTypes Tryz.prog++Tryz.f6.resultTypes.toList).any (Tryz.prog.veiledRec ·)):Bool)=true:=by kernel_rfl
theorem kw31:(Rows.rootsRow.veiledFits Tryz.prog Tryz.f6.params.toList (Tryz.f6.params.toList++(OpenSpec.ofChange Rows.rootsSpec).bare.plain.varTypes Tryz.prog++Tryz.f6.resultTypes.toList):Bool)=true:=by kernel_rfl
theorem factsV:joinedFacts Tryz.prog 6 Tryz.f6 (OpenSpec.ofChange Rows.rootsSpec).bare Rows.rootsRow=true:=
 (and_v (and_v (and_v (and_v (and_v (and_v (and_v (and_v (and_v (and_v (and_v (and_v (and_v (and_v (and_v (and_v (and_v (and_v (and_v (and_v (and_v (and_v (and_v (and_v (and_v (and_v (and_v (and_v (and_v (and_v (and_v kw0 kv1) kv2) kv3) kw4) kv5) kv6) kv7) kv8) kv9) kv10) kv11) kv12) kw13) kw14) kv15) kw16) kw17) kw18) kv19) kv20) kv21) kv22) kv23) kv24) kv25) kv26) kv27) kv28) kv29) kw30) kw31)
theorem pinned_progV:Tryz.pinned.checked.prog=Tryz.prog:=by kernel_rfl
theorem facts2V:joinedFacts Tryz.pinned.checked.prog 6 Tryz.f6 (OpenSpec.ofChange Rows.rootsSpec).bare Rows.rootsRow=true:=by
 rw [pinned_progV];exact factsV
theorem saidV (hX:RootsFact):Rows.RootsSaid:=
 OpenClaim.holds_of_cond 6 Tryz.f6 rfl rfl rfl rfl rfl rfl rfl ⟨rfl,rfl,rfl,rfl,rfl⟩ rfl rfl rfl rfl rfl (by kernel_rfl) Tryz.func6 facts2V
  (of_decide_eq_true (by kernel_rfl)) (by unfold Func.isWrapper;first|(rw [if_pos (by decide +kernel)];kernel_rfl)|(rw [if_neg (by decide +kernel)];exact ⟨rfl,rfl⟩))
  (fun os started H enc _ F=>by rw [OpenClaim.pre_eq_preRow];exact liftedV hX os started H enc F)
theorem hwV:Rows.rootsRow.wfByText (OpenSpec.ofChange Rows.rootsSpec)=true:=by kernel_rfl
theorem hmV:Tryz.pinned.checked.prog.mainIs=some (Rows.rootsCard.stood.harness.1,Rows.rootsCard.stood.harness.2.toList):=by
 rw [pinned_progV];kernel_rfl
theorem hgV:false=Rows.rootsRow.goesBy Tryz.pinned.checked.prog:=by
 rw [pinned_progV]
 unfold OpenClaim.goesBy Program.goesAt
 rw [goes_from,show Rows.rootsRow.start=.entering from rfl]
 rfl
theorem cardV (hX:RootsFact):Rows.RootsCardSaid:=
 Claim7.holds_tied_plain_at .later [] _ _ _ _ (saidV hX) (fun _ h=>by cases h) hwV (fun _ h=>by cases h) roots_row_tie rfl ⟨rfl,rfl⟩ hmV rfl plainV hgV
theorem roots_card:Rows.RootsCardSaid:=cardV rootsL_any
end Go.Proofs.YtgccjefbedpmpaaGreatDoor

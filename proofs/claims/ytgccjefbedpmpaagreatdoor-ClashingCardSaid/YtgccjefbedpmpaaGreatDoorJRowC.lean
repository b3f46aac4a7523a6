import Derived.Test.YtgccjefbedpmpaaGreatDoorJEnvC
import Derived.Test.YtgccjefbedpmpaaGreatDoorYScript
import Derived.Test.YtgccjefbedpmpaaGreatDoorJKeep
import Derived.Test.YtgccjefbedpmpaaGreatDoorJFactsC
namespace Go.Proofs.YtgccjefbedpmpaaGreatDoor
open Go.ChangeShapes Go.WideShapes Go.ChangeAt Go.RowKit Go.Deep
set_option maxRecDepth 100000
set_option maxHeartbeats 8000000
theorem laidOutV:laidOutB Tryz.prog=true:=by kernel_rfl
theorem readsV (os:Os) {H:Type} (enc:TypeId×Value→H):∃ places,DataW.whole enc Tryz.prog ((laidWorld Tryz.prog os).forCall (fun _ _=>0) ⟨#[],#[.slice none 0 0,.slice none 0 0],[]⟩).memory Tryz.f12.params.toList Rows.clashingSpec.vars false #[Value.slice none 0 0,Value.slice none 0 0].toList 8=some ([.nil,.nil],[],places):=
 ⟨[],by kernel_rfl⟩
theorem ops_openC {H:Type} {enc:TypeId×Value→H} {w:World} {base:Nat} {held:Bool} {v:Value} {d:DataW H} {p:List MemPlace} (h:DataW.Trod enc Tryz.prog w base (fun _=>true) held 32 v d p) (hs:∃ a l c,v=.slice a l c) (hw:∀ n∈d.weights Tryz.prog 32,n≤reachBytes):∃ (os:List Opn) (a:Option Addr) (cap:Nat),v=.slice a os.length cap∧(∀ o∈os,OpT o)∧OpsIs w a os∧os.length≤140737488351232:=by
 obtain ⟨fuel,h⟩:=h
 obtain ⟨va,vl,vc,rfl⟩:=hs
 rcases open_slice Tryz.underlying32 h with ⟨h0,_⟩|⟨a,len,cap,m',n'',D,Pl,h0,hb,hle,hm,hmm,hz,hall⟩
 · exact ⟨[],none,0,(List.cons.inj h0).1,(fun _ h=>absurd h List.not_mem_nil),Or.inl rfl,Nat.zero_le _⟩
 · rw [show Tryz.prog.cellsOf 43=6 from by kernel_rfl] at hall
   simp only [if_true] at hmm
   subst hmm
   simp only [Prod.mk.injEq] at hz
   obtain ⟨rfl,rfl⟩:=hz
   have hwz:m'*40≤reachBytes:=by
     refine hw _ ?_
     unfold DataW.weights
     rw [Tryz.underlying32]
     show _∈(_*Tryz.prog.bytesOf 43)::_
     rw [show Tryz.prog.bytesOf 43=40 from by kernel_rfl,List.length_map,List.length_map,List.length_range,List.length_range,show len+(m'-len)=m' by omega]
     exact .head _
   have hc:∀ i,i<len→∃ o:Opn,OpT o∧∀ j,j<6→w.cell? ((a.add (i*6)).add j)=some (opV o j):=fun i hi=>by
     obtain ⟨cs',h2,h3⟩:=hall i (by omega)
     obtain ⟨_,h6,h7⟩:=World.cells?_some h2
     obtain ⟨o,ho,hj⟩:=aop_open h3 h6
     exact ⟨o,ho,fun j hjl=>(h7 j hjl).trans (hj j hjl)⟩
   by_cases h00:len=0
   · subst h00
     exact ⟨[],_,_,(List.cons.inj h0).1,(fun _ h=>absurd h List.not_mem_nil),Or.inl rfl,Nat.zero_le _⟩
   · obtain ⟨ab,ao,sp⟩:=a
     have hsp:sp=none:=by
       obtain ⟨o,_,e⟩:=hc 0 (by omega)
       have e:=e 0 (by decide)
       simpa [Addr.add] using World.cell?_spot e
     subst hsp
     let g:Nat→Opn:=fun i=>if hi:i<len then (hc i hi).choose else ⟨0,0,0,0,0,0⟩
     have hg:∀ i,i<len→OpT (g i)∧∀ j,j<6→w.cell? ⟨ab,ao+i*6+j,none⟩=some (opV (g i) j):=fun i hi=>by
       have hs:=(hc i hi).choose_spec
       have eg:g i=(hc i hi).choose:=dif_pos hi
       rw [eg]
       refine ⟨hs.1,fun j hj=>?_⟩
       have q:=hs.2 j hj
       have q2:(((⟨ab,ao,none⟩:Addr).add (i*6)).add j)=⟨ab,ao+i*6+j,none⟩:=by rw [add_none,add_none]
       exact q2▸q
     refine ⟨(List.range len).map g,some ⟨ab,ao,none⟩,m',?_,?_,Or.inr ⟨ab,ao,rfl,fun i hi j hj=>?_⟩,?_⟩
     · rw [List.length_map,List.length_range];exact (List.cons.inj h0).1
     · intro o ho
       obtain ⟨i,hi,rfl⟩:=List.mem_map.1 ho
       exact (hg i (List.mem_range.1 hi)).1
     · rw [List.length_map,List.length_range] at hi
       rw [List.getElem_map,List.getElem_range]
       exact (hg i hi).2 j hj
     · rw [List.length_map,List.length_range]
       simp only [reachBytes] at hwz
       omega
def ClashingFact:Prop:=∀ (xs ys:List Opn) (a b:Option Addr) (c d:Nat) (w:World),OpsIs w a xs→OpsIs w b ys→(∀ o∈xs,OpT o)→(∀ o∈ys,OpT o)→xs.length≤140737488355328→ys.length≤140737488355328→Env w→15≤w.heap.size →
 Calls Tryz.prog 12 #[.slice a xs.length c,.slice b ys.length d] w fun e w'=>e=.returned (.bool true)∧Below w.heap.size w w'
theorem contractV (hX:ClashingFact) (H:Type) (enc:TypeId×Value→H) (W:World) (base:Nat) (args:Array Value) (ds gs:List (DataW H)) (before:List MemPlace)
  (hval:∀ (j:Nat) t v,Tryz.f12.params[j]?=some t→args[j]?=some v→Value.okWide Tryz.prog W .any base t v)
  (hW:DataW.Whole enc Tryz.prog Tryz.f12.params.toList Rows.clashingSpec.vars false W args.toList ds gs before)
  (hsz:(DataW.weightsEach Tryz.prog (Tryz.f12.params.toList++(OpenSpec.ofChange Rows.clashingSpec).bare.plain.varTypes Tryz.prog) (ds++gs)).all (·≤reachBytes)=true) (hL:laidMetH Tryz.prog Rows.clashingRow.laid W) (hSh:W.ShapedOpen Tryz.prog) :
  Calls Tryz.prog 12 args W fun e W'=>∃ v,e=.returned v∧Rows.clashingSpec.post enc Tryz.prog Tryz.f12 false true false false W args v W':=by
 have hW':=hW
 obtain ⟨p,q,hA0,hV,rfl,hfz,hnd⟩:=hW
 have hA:DataW.TrodAll enc Tryz.prog W 0 (fun _=>true) true Tryz.f12.params.toList args.toList ds p:=hA0
 rw [Tryz.params12] at hA hval hsz
 obtain ⟨v0,vs0,d0,ds0,p0,q0,hargs,rfl,rfl,h0,r0⟩:=trodAll_cons hA
 obtain ⟨v1,vs1,d1,ds1,p1,q1,hargs1,rfl,rfl,h1,r1⟩:=trodAll_cons r0
 obtain ⟨rfl,rfl,rfl⟩:=trodAll_nil r1
 subst hargs1
 obtain rfl:args=#[v0,v1]:=by cases args;simp_all
 obtain ⟨rfl,rfl⟩:=trodVars_none hV
 clear hA0
 simp only [List.append_nil] at hW' hsz
 have hlt:∀ x∈p0++p1,x.block<W.heap.size:=fun x hx=>hW'.lt x hx
 have hw0:∀ n∈d0.weights Tryz.prog 32,n≤reachBytes:=fun n hn=>by
  have:=List.all_eq_true.1 hsz n (DataW.weights_mem_each (j:=0) (t:=32) rfl rfl n hn)
  simpa using this
 have hw1:∀ n∈d1.weights Tryz.prog 32,n≤reachBytes:=fun n hn=>by
  have:=List.all_eq_true.1 hsz n (DataW.weights_mem_each (j:=1) (t:=32) rfl rfl n hn)
  simpa using this
 have hEn:=env_ofC hL
 have hg9:=globals_of hSh
 obtain ⟨xs,a,c,rfl,hT,hO,hn⟩:=ops_openC h0 (okWide_slice Tryz.underlying32 (hval 0 32 v0 rfl rfl)) hw0
 obtain ⟨ys,b,d,rfl,hT2,hO2,hn2⟩:=ops_openC h1 (okWide_slice Tryz.underlying32 (hval 1 32 v1 rfl rfl)) hw1
 refine (hX xs ys a b c d W hO hO2 hT hT2 (by omega) (by omega) hEn hg9).mono fun e W' ⟨he,bel⟩=>?_
 subst he
 refine ⟨_,rfl,_,_,_,[],p0++p1,[],hW',?_,?_,?_,bel.frame _,fun h=>by cases h⟩
 · exact trodAll_mk1 (shut_bool Tryz.underlying4 true)
 · exact trodAll_mk2 (Below.trod laidOutV (by kernel_rfl) (of_decide_eq_true (by kernel_rfl)) h0 bel (fun x hx=>hlt x (List.mem_append_left _ hx))) (Below.trod laidOutV (by kernel_rfl) (of_decide_eq_true (by kernel_rfl)) h1 bel (fun x hx=>hlt x (List.mem_append_right _ hx)))
 · rfl
theorem liftedV (hX:ClashingFact) (os:Os) (started:os.Started) (H:Type) (enc:TypeId×Value→H) (F:Stop.Interp) :
  ReturnsInHanded {} Tryz.checked os 12 .any ((OpenSpec.ofChange Rows.clashingSpec).preRow enc Tryz.prog Tryz.f12 Rows.clashingRow.domain false Rows.clashingRow.laid) (((OpenSpec.ofChange Rows.clashingSpec).at F).post enc Tryz.prog Tryz.f12 false true false false):=by
 obtain ⟨places,hx⟩:=readsV os enc
 refine returnsInHanded_of_row (C:=Tryz.checked) (s:=OpenSpec.ofChange Rows.clashingSpec) own started (by kernel_rfl) Tryz.func12
  (witness_row_atRef (enc:=enc) (C:=Tryz.checked) false (laidWorld Tryz.prog os) #[.slice none 0 0,.slice none 0 0] rfl (by kernel_rfl) (by kernel_rfl) (by kernel_rfl)
   (OpenSpec.preRow_of_cond 8 hx (by kernel_rfl) (fun k hk=>by cases hk) (by kernel_rfl) (laid_metC os _))) ?_
 intro W base args ds gs before hval hW _ _ hsz hL hSh _
 exact contractV hX H enc W base args ds gs before hval hW hsz hL hSh
theorem plainV (f:FuncId) (fn:Func) (hf:Tryz.pinned.checked.prog.funcNamed Rows.clashingRow.func=some f) (hfn:Tryz.pinned.checked.prog.funcs[f]?=some fn) :
  true=Tryz.pinned.checked.prog.looks []∧∀ (j:Nat) t,fn.params[j]?=some t→Tryz.pinned.checked.prog.wantsStandIn t=false:=by
 obtain rfl:f=12:=Option.some.inj ((show Tryz.prog.funcNamed Rows.clashingRow.func=some 12 by kernel_rfl).symm.trans hf) |>.symm
 obtain rfl:fn=Tryz.f12:=(Option.some.inj (Tryz.func12.symm.trans hfn)).symm
 refine ⟨by kernel_rfl,fun j t ht=>?_⟩
 rw [Tryz.params12] at ht
 obtain rfl:t=32:=by simpa using Array.mem_of_getElem? ht
 exact (show Tryz.prog.wantsStandIn 32=false by kernel_rfl)
theorem kw0:(Rows.clashingRow.wf (OpenSpec.ofChange (OpenSpec.ofChange Rows.clashingSpec).bare):Bool)=true:=by kernel_rfl
theorem kw4:(namedTie Tryz.prog Rows.clashingRow.named (OpenSpec.ofChange Rows.clashingSpec).bare.vars:Bool)=true:=by kernel_rfl
theorem kw13:((Rows.clashingRow.maps==(Tryz.f12.params.toList++(OpenSpec.ofChange Rows.clashingSpec).bare.plain.varTypes Tryz.prog).any (Tryz.prog.mapsRec ·)):Bool)=true:=by kernel_rfl
theorem kw14:((Rows.clashingRow.ifaces==(Tryz.f12.params.toList++(OpenSpec.ofChange Rows.clashingSpec).bare.plain.varTypes Tryz.prog).any (Tryz.prog.ifacesRec ·)):Bool)=true:=by kernel_rfl
theorem kw16:((Rows.clashingRow.loops==(Tryz.f12.params.toList++(OpenSpec.ofChange Rows.clashingSpec).bare.plain.varTypes Tryz.prog).any (Tryz.prog.loopsFrom ·)):Bool)=true:=by kernel_rfl
theorem kw17:((Rows.clashingRow.wideKeys==(Tryz.f12.params.toList++(OpenSpec.ofChange Rows.clashingSpec).bare.plain.varTypes Tryz.prog++Tryz.f12.resultTypes.toList).any (Tryz.prog.wideKeysFrom ·)):Bool)=true:=by kernel_rfl
theorem kw18:((OpenSpec.ofChange Rows.clashingSpec).bare.vars.all (Tryz.prog.varReadable ·):Bool)=true:=by kernel_rfl
theorem kw30:((Rows.clashingRow.veiled==(Tryz.f12.params.toList++(OpenSpec.ofChange Rows.clashingSpec).bare.plain.varTypes Tryz.prog++Tryz.f12.resultTypes.toList).any (Tryz.prog.veiledRec ·)):Bool)=true:=by kernel_rfl
theorem kw31:(Rows.clashingRow.veiledFits Tryz.prog Tryz.f12.params.toList (Tryz.f12.params.toList++(OpenSpec.ofChange Rows.clashingSpec).bare.plain.varTypes Tryz.prog++Tryz.f12.resultTypes.toList):Bool)=true:=by kernel_rfl
theorem factsV:joinedFacts Tryz.prog 12 Tryz.f12 (OpenSpec.ofChange Rows.clashingSpec).bare Rows.clashingRow=true:=
 (and_v (and_v (and_v (and_v (and_v (and_v (and_v (and_v (and_v (and_v (and_v (and_v (and_v (and_v (and_v (and_v (and_v (and_v (and_v (and_v (and_v (and_v (and_v (and_v (and_v (and_v (and_v (and_v (and_v (and_v (and_v kw0 kv1) kv2) kv3) kw4) kv5) kv6) kv7) kv8) kv9) kv10) kv11) kv12) kw13) kw14) kv15) kw16) kw17) kw18) kv19) kv20) kv21) kv22) kv23) kv24) kv25) kv26) kv27) kv28) kv29) kw30) kw31)
theorem pinned_progV:Tryz.pinned.checked.prog=Tryz.prog:=by kernel_rfl
theorem facts2V:joinedFacts Tryz.pinned.checked.prog 12 Tryz.f12 (OpenSpec.ofChange Rows.clashingSpec).bare Rows.clashingRow=true:=by
 rw [pinned_progV];exact factsV
theorem saidV (hX:ClashingFact):Rows.ClashingSaid:=
 OpenClaim.holds_of_cond 12 Tryz.f12 rfl rfl rfl rfl rfl rfl rfl ⟨rfl,rfl,rfl,rfl,rfl⟩ rfl rfl rfl rfl rfl (by kernel_rfl) Tryz.func12 facts2V
  (of_decide_eq_true (by kernel_rfl)) (by unfold Func.isWrapper;first|(rw [if_pos (by decide +kernel)];kernel_rfl)|(rw [if_neg (by decide +kernel)];exact ⟨rfl,rfl⟩))
  (fun os started H enc _ F=>by rw [OpenClaim.pre_eq_preRow];exact liftedV hX os started H enc F)
theorem hwV:Rows.clashingRow.wfByText (OpenSpec.ofChange Rows.clashingSpec)=true:=by kernel_rfl
theorem hmV:Tryz.pinned.checked.prog.mainIs=some (Rows.clashingCard.stood.harness.1,Rows.clashingCard.stood.harness.2.toList):=by
 rw [pinned_progV];kernel_rfl
theorem hgV:false=Rows.clashingRow.goesBy Tryz.pinned.checked.prog:=by
 rw [pinned_progV]
 unfold OpenClaim.goesBy Program.goesAt
 rw [goes_from,show Rows.clashingRow.start=.entering from rfl]
 rfl
theorem cardV (hX:ClashingFact):Rows.ClashingCardSaid:=
 Claim7.holds_tied_plain_at .later [] _ _ _ _ (saidV hX) (fun _ h=>by cases h) hwV (fun _ h=>by cases h) clashing_row_tie rfl ⟨rfl,rfl⟩ hmV rfl plainV hgV
theorem clashing_card:Rows.ClashingCardSaid:=cardV fun xs ys a b c d w h1 h2 h3 h4 h5 h6 h7 h8=>clashing_any xs ys a b c d w h1 h2 h3 h4 h5 h6 h7 h8
end Go.Proofs.YtgccjefbedpmpaaGreatDoor

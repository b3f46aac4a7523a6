import Derived.Test.YtgccjefbedpmpaaGreatDoorJEnvS
import Derived.Test.YtgccjefbedpmpaaGreatDoorYScript
import Derived.Test.YtgccjefbedpmpaaGreatDoorJStD
import Derived.Test.YtgccjefbedpmpaaGreatDoorJFactsS
namespace Go.Proofs.YtgccjefbedpmpaaGreatDoor
open Go.ChangeShapes Go.WideShapes Go.ChangeAt Go.RowKit Go.Deep
set_option maxRecDepth 100000
set_option maxHeartbeats 8000000
theorem laidOutV:laidOutB Tryz.prog=true:=by kernel_rfl
theorem readsV (os:Os) {H:Type} (enc:TypeId×Value→H):∃ places,DataW.whole enc Tryz.prog ((laidWorld Tryz.prog os).forCall (fun _ _=>0) ⟨#[],#[.slice none 0 0,.int .i64 0,.int .i64 0],[]⟩).memory Tryz.f8.params.toList Rows.steadySpec.vars false #[Value.slice none 0 0,Value.int .i64 0,Value.int .i64 0].toList 8=some ([.nil,.lit (.int .i64 0),.lit (.int .i64 0)],[],places):=
 ⟨[],by kernel_rfl⟩
section
variable {H : Type} {enc : TypeId × Value → H} {w : World} {base : Nat} {spare : Nat → Bool} {held : Bool}
theorem ed_open {fuel:Nat} {cs:List Value} {x:DataW H×List MemPlace} (h:DataW.trod enc Tryz.prog w base spare held fuel 95 cs=some x) (hl:cs.length=4):∃ o:Ed,EdT o∧∀ j,j < 4→cs[j]?=some (edV o j):=by
 obtain ⟨n0,e0,b0⟩:=field_int (i:=0) Tryz.underlying95 h rfl (by kernel_rfl) (k:=.i64) (by kernel_rfl) (by rw [hl];decide)
 obtain ⟨n1,e1,b1⟩:=field_int (i:=1) Tryz.underlying95 h rfl (by kernel_rfl) (k:=.i64) (by kernel_rfl) (by rw [hl];decide)
 obtain ⟨n2,e2,b2⟩:=field_int (i:=2) Tryz.underlying95 h rfl (by kernel_rfl) (k:=.i64) (by kernel_rfl) (by rw [hl];decide)
 obtain ⟨n3,e3,b3⟩:=field_int (i:=3) Tryz.underlying95 h rfl (by kernel_rfl) (k:=.i64) (by kernel_rfl) (by rw [hl];decide)
 refine ⟨⟨n0,n1,n2,n3⟩,⟨kb64 b0,kb64 b1,kb64 b2,kb64 b3⟩,fun j hj=>?_⟩
 match j,hj with
 | 0,_=>exact e0
 | 1,_=>exact e1
 | 2,_=>exact e2
 | 3,_=>exact e3
end
theorem int_open {H:Type} {enc:TypeId×Value→H} {w:World} {base:Nat} {held:Bool} {v:Value} {d:DataW H} {p:List MemPlace} (h:DataW.Trod enc Tryz.prog w base (fun _=>true) held 3 v d p) (hs:∃ n,v=.int .i64 n):∃ n:Int,v=.int .i64 n∧i64B n:=by
 obtain ⟨fuel,h⟩:=h
 obtain ⟨m,rfl⟩:=hs
 obtain ⟨n,e,_,e3⟩:=DataW.trod_int Tryz.underlying3 h
 exact ⟨n,(List.cons.inj e).1,kb64 (wfk e3)⟩
theorem eds_open {H:Type} {enc:TypeId×Value→H} {w:World} {base:Nat} {held:Bool} {v:Value} {d:DataW H} {p:List MemPlace} (h:DataW.Trod enc Tryz.prog w base (fun _=>true) held 26 v d p) (hs:∃ a l c,v=.slice a l c) (hw:∀ n∈d.weights Tryz.prog 26,n≤reachBytes):∃ (os:List Ed) (a:Option Addr) (cap:Nat),v=.slice a os.length cap∧(∀ o∈os,EdT o)∧EdsIs w a os∧os.length≤140737488355328:=by
 obtain ⟨fuel,h⟩:=h
 obtain ⟨va,vl,vc,rfl⟩:=hs
 rcases open_slice Tryz.underlying26 h with ⟨h0,_⟩ | ⟨a,len,cap,m',n'',D,Pl,h0,hb,hle,hm,hmm,hz,hall⟩
 · exact ⟨[],none,0,(List.cons.inj h0).1,(fun _ h=>absurd h List.not_mem_nil),Or.inl rfl,Nat.zero_le _⟩
 · rw [show Tryz.prog.cellsOf 95=4 from by kernel_rfl] at hall
   simp only [if_true] at hmm
   subst hmm
   simp only [Prod.mk.injEq] at hz
   obtain ⟨rfl,rfl⟩:=hz
   have hwz:m'*32≤reachBytes:=by
     refine hw _ ?_
     unfold DataW.weights
     rw [Tryz.underlying26]
     show _∈(_*Tryz.prog.bytesOf 95)::_
     rw [show Tryz.prog.bytesOf 95=32 from by kernel_rfl,List.length_map,List.length_map,List.length_range,List.length_range,show len+(m'-len)=m' by omega]
     exact .head _
   have hc:∀ i,i < len→∃ o:Ed,EdT o∧∀ j,j < 4→w.cell? ((a.add (i*4)).add j)=some (edV o j):=fun i hi=>by
     obtain ⟨cs',h2,h3⟩:=hall i (by omega)
     obtain ⟨_,h6,h7⟩:=World.cells?_some h2
     obtain ⟨o,ho,hj⟩:=ed_open h3 h6
     exact ⟨o,ho,fun j hjl=>(h7 j hjl).trans (hj j hjl)⟩
   by_cases h00:len=0
   · subst h00
     exact ⟨[],_,_,(List.cons.inj h0).1,(fun _ h=>absurd h List.not_mem_nil),Or.inl rfl,Nat.zero_le _⟩
   · obtain ⟨ab,ao,sp⟩:=a
     have hsp:sp=none:=by
       obtain ⟨o,_,e⟩:=hc 0 (by omega)
       have e:=e 0 (by decide)
       simpa [Addr.add] using World.cell?_spot e
     subst hsp
     let g:Nat→Ed:=fun i=>if hi:i < len then (hc i hi).choose else ⟨0,0,0,0⟩
     have hg:∀ i,i < len→EdT (g i)∧∀ j,j < 4→w.cell? ⟨ab,ao+i*4+j,none⟩=some (edV (g i) j):=fun i hi=>by
       have hs:=(hc i hi).choose_spec
       have eg:g i=(hc i hi).choose:=dif_pos hi
       rw [eg]
       refine ⟨hs.1,fun j hj=>?_⟩
       have q:=hs.2 j hj
       have q2:(((⟨ab,ao,none⟩:Addr).add (i*4)).add j)=⟨ab,ao+i*4+j,none⟩:=by rw [add_none,add_none]
       exact q2▸q
     refine ⟨(List.range len).map g,some ⟨ab,ao,none⟩,m',?_,?_,Or.inr ⟨ab,ao,rfl,fun i hi j hj=>?_⟩,?_⟩
     · rw [List.length_map,List.length_range];exact (List.cons.inj h0).1
     · intro o ho
       obtain ⟨i,hi,rfl⟩:=List.mem_map.1 ho
       exact (hg i (List.mem_range.1 hi)).1
     · rw [List.length_map,List.length_range] at hi
       rw [List.getElem_map,List.getElem_range]
       exact (hg i hi).2 j hj
     · rw [List.length_map,List.length_range]
       simp only [reachBytes] at hwz
       omega
def SteadyFact:Prop:=∀ (es:List Ed) (lo hi:Int) (a:Option Addr) (c:Nat) (w:World),EdsIs w a es→(∀ e∈es,EdT e)→i64B lo→i64B hi→es.length≤140737488355328→Env w→15≤w.heap.size →
 Calls Tryz.prog 8 #[.slice a es.length c,.int .i64 lo,.int .i64 hi] w fun e w'=>e=.returned (.bool true)∧Below w.heap.size w w'
theorem contractV (hX:SteadyFact) (H:Type) (enc:TypeId×Value→H) (W:World) (base:Nat) (args:Array Value) (ds gs:List (DataW H)) (before:List MemPlace)
  (hval:∀ (j:Nat) t v,Tryz.f8.params[j]?=some t→args[j]?=some v→Value.okWide Tryz.prog W .any base t v)
  (hW:DataW.Whole enc Tryz.prog Tryz.f8.params.toList Rows.steadySpec.vars false W args.toList ds gs before)
  (hsz:(DataW.weightsEach Tryz.prog (Tryz.f8.params.toList++(OpenSpec.ofChange Rows.steadySpec).bare.plain.varTypes Tryz.prog) (ds++gs)).all (·≤reachBytes)=true) (hL:laidMetH Tryz.prog Rows.steadyRow.laid W) (hSh:W.ShapedOpen Tryz.prog) :
  Calls Tryz.prog 8 args W fun e W'=>∃ v,e=.returned v∧Rows.steadySpec.post enc Tryz.prog Tryz.f8 false true false false W args v W':=by
 have hW':=hW
 obtain ⟨p,q,hA0,hV,rfl,hfz,hnd⟩:=hW
 have hA:DataW.TrodAll enc Tryz.prog W 0 (fun _=>true) true Tryz.f8.params.toList args.toList ds p:=hA0
 rw [Tryz.params8] at hA hval hsz
 obtain ⟨v0,vs0,d0,ds0,p0,q0,hargs,rfl,rfl,h0,r0⟩:=trodAll_cons hA
 obtain ⟨v1,vs1,d1,ds1,p1,q1,hargs1,rfl,rfl,h1,r1⟩:=trodAll_cons r0
 obtain ⟨v2,vs2,d2,ds2,p2,q2,hargs2,rfl,rfl,h2,r2⟩:=trodAll_cons r1
 obtain ⟨rfl,rfl,rfl⟩:=trodAll_nil r2
 subst hargs1 hargs2
 obtain rfl:args=#[v0,v1,v2]:=by cases args;simp_all
 obtain ⟨rfl,rfl⟩:=trodVars_none hV
 clear hA0
 simp only [List.append_nil] at hW' hsz
 have hlt:∀ x∈p0++(p1++p2),x.block < W.heap.size:=fun x hx=>hW'.lt x hx
 have hw0:∀ n∈d0.weights Tryz.prog 26,n≤reachBytes:=fun n hn=>by
  have:=List.all_eq_true.1 hsz n (DataW.weights_mem_each (j:=0) (t:=26) rfl rfl n hn)
  simpa using this
 have hEn:=env_ofC hL
 have hg9:=globals_of hSh
 obtain ⟨es,a,c,rfl,hT,hO,hn⟩:=eds_open h0 (okWide_slice Tryz.underlying26 (hval 0 26 v0 rfl rfl)) hw0
 obtain ⟨lo,rfl,hlo⟩:=int_open h1 (okWide_int Tryz.underlying3 (hval 1 3 v1 rfl rfl))
 obtain ⟨hi,rfl,hhi⟩:=int_open h2 (okWide_int Tryz.underlying3 (hval 2 3 v2 rfl rfl))
 refine (hX es lo hi a c W hO hT hlo hhi (by omega) hEn hg9).mono fun e W' ⟨he,bel⟩=>?_
 subst he
 refine ⟨_,rfl,_,_,_,[],p0++(p1++p2),[],hW',?_,?_,?_,bel.frame _,fun h=>by cases h⟩
 · exact trodAll_mk1 (shut_bool Tryz.underlying4 true)
 · exact trodAll_mk3 (Below.trod laidOutV (by kernel_rfl) (of_decide_eq_true (by kernel_rfl)) h0 bel (fun x hx=>hlt x (List.mem_append_left _ hx))) (Below.trod laidOutV (by kernel_rfl) (of_decide_eq_true (by kernel_rfl)) h1 bel (fun x hx=>hlt x (List.mem_append_right _ (List.mem_append_left _ hx)))) (Below.trod laidOutV (by kernel_rfl) (of_decide_eq_true (by kernel_rfl)) h2 bel (fun x hx=>hlt x (List.mem_append_right _ (List.mem_append_right _ hx))))
 · rfl
theorem liftedV (hX:SteadyFact) (os:Os) (started:os.Started) (H:Type) (enc:TypeId×Value→H) (F:Stop.Interp) :
  ReturnsInHanded {} Tryz.checked os 8 .any ((OpenSpec.ofChange Rows.steadySpec).preRow enc Tryz.prog Tryz.f8 Rows.steadyRow.domain false Rows.steadyRow.laid) (((OpenSpec.ofChange Rows.steadySpec).at F).post enc Tryz.prog Tryz.f8 false true false false):=by
 obtain ⟨places,hx⟩:=readsV os enc
 refine returnsInHanded_of_row (C:=Tryz.checked) (s:=OpenSpec.ofChange Rows.steadySpec) own started (by kernel_rfl) Tryz.func8
  (witness_row_atRef (enc:=enc) (C:=Tryz.checked) false (laidWorld Tryz.prog os) #[.slice none 0 0,.int .i64 0,.int .i64 0] rfl (by kernel_rfl) (by kernel_rfl) (by kernel_rfl)
   (OpenSpec.preRow_of_cond 8 hx (by kernel_rfl) (fun k hk=>by cases hk) (by kernel_rfl) (laid_metC os _))) ?_
 intro W base args ds gs before hval hW _ _ hsz hL hSh _
 exact contractV hX H enc W base args ds gs before hval hW hsz hL hSh
theorem plainV (f:FuncId) (fn:Func) (hf:Tryz.pinned.checked.prog.funcNamed Rows.steadyRow.func=some f) (hfn:Tryz.pinned.checked.prog.funcs[f]?=some fn) :
  true=Tryz.pinned.checked.prog.looks []∧∀ (j:Nat) t,fn.params[j]?=some t→Tryz.pinned.checked.prog.wantsStandIn t=false:=by
 obtain rfl:f=8:=Option.some.inj ((show Tryz.prog.funcNamed Rows.steadyRow.func=some 8 by kernel_rfl).symm.trans hf) |>.symm
 obtain rfl:fn=Tryz.f8:=(Option.some.inj (Tryz.func8.symm.trans hfn)).symm
 refine ⟨by kernel_rfl,fun j t ht=>?_⟩
 rw [Tryz.params8] at ht
 have ht:=Array.mem_of_getElem? ht
 simp only [List.mem_toArray,List.mem_cons,List.not_mem_nil,or_false] at ht
 rcases ht with rfl | rfl | rfl <;> exact (show Tryz.prog.wantsStandIn _=false by kernel_rfl)
theorem kw0:(Rows.steadyRow.wf (OpenSpec.ofChange (OpenSpec.ofChange Rows.steadySpec).bare):Bool)=true:=by kernel_rfl
theorem kw4:(namedTie Tryz.prog Rows.steadyRow.named (OpenSpec.ofChange Rows.steadySpec).bare.vars:Bool)=true:=by kernel_rfl
theorem kw13:((Rows.steadyRow.maps==(Tryz.f8.params.toList++(OpenSpec.ofChange Rows.steadySpec).bare.plain.varTypes Tryz.prog).any (Tryz.prog.mapsRec ·)):Bool)=true:=by kernel_rfl
theorem kw14:((Rows.steadyRow.ifaces==(Tryz.f8.params.toList++(OpenSpec.ofChange Rows.steadySpec).bare.plain.varTypes Tryz.prog).any (Tryz.prog.ifacesRec ·)):Bool)=true:=by kernel_rfl
theorem kw16:((Rows.steadyRow.loops==(Tryz.f8.params.toList++(OpenSpec.ofChange Rows.steadySpec).bare.plain.varTypes Tryz.prog).any (Tryz.prog.loopsFrom ·)):Bool)=true:=by kernel_rfl
theorem kw17:((Rows.steadyRow.wideKeys==(Tryz.f8.params.toList++(OpenSpec.ofChange Rows.steadySpec).bare.plain.varTypes Tryz.prog++Tryz.f8.resultTypes.toList).any (Tryz.prog.wideKeysFrom ·)):Bool)=true:=by kernel_rfl
theorem kw18:((OpenSpec.ofChange Rows.steadySpec).bare.vars.all (Tryz.prog.varReadable ·):Bool)=true:=by kernel_rfl
theorem kw30:((Rows.steadyRow.veiled==(Tryz.f8.params.toList++(OpenSpec.ofChange Rows.steadySpec).bare.plain.varTypes Tryz.prog++Tryz.f8.resultTypes.toList).any (Tryz.prog.veiledRec ·)):Bool)=true:=by kernel_rfl
theorem kw31:(Rows.steadyRow.veiledFits Tryz.prog Tryz.f8.params.toList (Tryz.f8.params.toList++(OpenSpec.ofChange Rows.steadySpec).bare.plain.varTypes Tryz.prog++Tryz.f8.resultTypes.toList):Bool)=true:=by kernel_rfl
theorem factsV:joinedFacts Tryz.prog 8 Tryz.f8 (OpenSpec.ofChange Rows.steadySpec).bare Rows.steadyRow=true:=
 (and_v (and_v (and_v (and_v (and_v (and_v (and_v (and_v (and_v (and_v (and_v (and_v (and_v (and_v (and_v (and_v (and_v (and_v (and_v (and_v (and_v (and_v (and_v (and_v (and_v (and_v (and_v (and_v (and_v (and_v (and_v kw0 kv1) kv2) kv3) kw4) kv5) kv6) kv7) kv8) kv9) kv10) kv11) kv12) kw13) kw14) kv15) kw16) kw17) kw18) kv19) kv20) kv21) kv22) kv23) kv24) kv25) kv26) kv27) kv28) kv29) kw30) kw31)
theorem pinned_progV:Tryz.pinned.checked.prog=Tryz.prog:=by kernel_rfl
theorem facts2V:joinedFacts Tryz.pinned.checked.prog 8 Tryz.f8 (OpenSpec.ofChange Rows.steadySpec).bare Rows.steadyRow=true:=by
 rw [pinned_progV];exact factsV
theorem saidV (hX:SteadyFact):Rows.SteadySaid:=
 OpenClaim.holds_of_cond 8 Tryz.f8 rfl rfl rfl rfl rfl rfl rfl ⟨rfl,rfl,rfl,rfl,rfl⟩ rfl rfl rfl rfl rfl (by kernel_rfl) Tryz.func8 facts2V
  (of_decide_eq_true (by kernel_rfl)) (by unfold Func.isWrapper;first | (rw [if_pos (by decide +kernel)];kernel_rfl) | (rw [if_neg (by decide +kernel)];exact ⟨rfl,rfl⟩))
  (fun os started H enc _ F=>by rw [OpenClaim.pre_eq_preRow];exact liftedV hX os started H enc F)
theorem hwV:Rows.steadyRow.wfByText (OpenSpec.ofChange Rows.steadySpec)=true:=by kernel_rfl
theorem hmV:Tryz.pinned.checked.prog.mainIs=some (Rows.steadyCard.stood.harness.1,Rows.steadyCard.stood.harness.2.toList):=by
 rw [pinned_progV];kernel_rfl
theorem hgV:false=Rows.steadyRow.goesBy Tryz.pinned.checked.prog:=by
 rw [pinned_progV]
 unfold OpenClaim.goesBy Program.goesAt
 rw [goes_from,show Rows.steadyRow.start=.entering from rfl]
 rfl
theorem cardV (hX:SteadyFact):Rows.SteadyCardSaid:=
 Claim7.holds_tied_plain_at .later [] _ _ _ _ (saidV hX) (fun _ h=>by cases h) hwV (fun _ h=>by cases h) steady_row_tie rfl ⟨rfl,rfl⟩ hmV rfl plainV hgV
theorem steady_card:Rows.SteadyCardSaid:=cardV fun es lo hi a c w h1 h2 h3 h4 h5 h6 h7=>steady_any es lo hi a c w h1 h2 h3 h4 h5 h6 h7
end Go.Proofs.YtgccjefbedpmpaaGreatDoor

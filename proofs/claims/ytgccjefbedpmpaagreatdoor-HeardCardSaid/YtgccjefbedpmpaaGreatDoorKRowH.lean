import Derived.Test.YtgccjefbedpmpaaGreatDoorKEnvH
import Derived.Test.YtgccjefbedpmpaaGreatDoorYScript
import Derived.Test.YtgccjefbedpmpaaGreatDoorKFactsH
import Derived.Test.YtgccjefbedpmpaaGreatDoorKHA
namespace Go.Proofs.YtgccjefbedpmpaaGreatDoor
open Go.ChangeShapes Go.WideShapes Go.ChangeAt Go.RowKit Go.Deep
set_option maxRecDepth 100000
set_option maxHeartbeats 8000000
theorem laidOutV:laidOutB Tryz.prog=true:=by kernel_rfl
theorem readsV (os:Os) {H:Type} (enc:TypeId×Value→H):∃ places,DataW.whole enc Tryz.prog ((laidWorld Tryz.prog os).forCall (fun _ _=>0) ⟨#[],#[.slice none 0 0,.slice none 0 0],[]⟩).memory Tryz.f13.params.toList Rows.heardSpec.vars false #[Value.slice none 0 0,Value.slice none 0 0].toList 8=some ([.nil,.nil],[],places):=
 ⟨[],by kernel_rfl⟩
section
variable {H : Type} {enc : TypeId × Value → H} {w : World} {base : Nat} {spare : Nat → Bool} {held : Bool}
theorem ed_open {fuel:Nat} {cs:List Value} {x:DataW H×List MemPlace} (h:DataW.trod enc Tryz.prog w base spare held fuel 95 cs=some x) (hl:cs.length=4):∃ o:Ed,EdT o∧∀ j,j < 4→cs[j]?=some (edV o j):=by
 obtain ⟨n0,e0,b0⟩:=field_int (i:=0) Tryz.underlying95 h rfl (by kernel_rfl) (k:=.i64) (by kernel_rfl) (by rw [hl];decide)
 obtain ⟨n1,e1,b1⟩:=field_int (i:=1) Tryz.underlying95 h rfl (by kernel_rfl) (k:=.i64) (by kernel_rfl) (by rw [hl];decide)
 obtain ⟨n2,e2,b2⟩:=field_int (i:=2) Tryz.underlying95 h rfl (by kernel_rfl) (k:=.i64) (by kernel_rfl) (by rw [hl];decide)
 obtain ⟨n3,e3,b3⟩:=field_int (i:=3) Tryz.underlying95 h rfl (by kernel_rfl) (k:=.i64) (by kernel_rfl) (by rw [hl];decide)
 refine ⟨⟨n0,n1,n2,n3⟩,⟨kb64 b0,kb64 b1,kb64 b2,kb64 b3⟩,fun j hj=>?_⟩
 match j,hj with
 | 0,_=>exact e0
 | 1,_=>exact e1
 | 2,_=>exact e2
 | 3,_=>exact e3
end
theorem eds_open {H:Type} {enc:TypeId×Value→H} {w:World} {base:Nat} {held:Bool} {v:Value} {d:DataW H} {p:List MemPlace} (h:DataW.Trod enc Tryz.prog w base (fun _=>true) held 26 v d p) (hs:∃ a l c,v=.slice a l c) (hw:∀ n∈d.weights Tryz.prog 26,n≤reachBytes):∃ (os:List Ed) (a:Option Addr) (cap:Nat),v=.slice a os.length cap∧(∀ o∈os,EdT o)∧EdsIs w a os∧os.length≤140737488355328:=by
 obtain ⟨fuel,h⟩:=h
 obtain ⟨va,vl,vc,rfl⟩:=hs
 rcases open_slice Tryz.underlying26 h with ⟨h0,_⟩ | ⟨a,len,cap,m',n'',D,Pl,h0,hb,hle,hm,hmm,hz,hall⟩
 · exact ⟨[],none,0,(List.cons.inj h0).1,(fun _ h=>absurd h List.not_mem_nil),Or.inl rfl,Nat.zero_le _⟩
 · rw [show Tryz.prog.cellsOf 95=4 from by kernel_rfl] at hall
   simp only [if_true] at hmm
   subst hmm
   simp only [Prod.mk.injEq] at hz
   obtain ⟨rfl,rfl⟩:=hz
   have hwz:m'*32≤reachBytes:=by
     refine hw _ ?_
     unfold DataW.weights
     rw [Tryz.underlying26]
     show _∈(_*Tryz.prog.bytesOf 95)::_
     rw [show Tryz.prog.bytesOf 95=32 from by kernel_rfl,List.length_map,List.length_map,List.length_range,List.length_range,show len+(m'-len)=m' by omega]
     exact .head _
   have hc:∀ i,i < len→∃ o:Ed,EdT o∧∀ j,j < 4→w.cell? ((a.add (i*4)).add j)=some (edV o j):=fun i hi=>by
     obtain ⟨cs',h2,h3⟩:=hall i (by omega)
     obtain ⟨_,h6,h7⟩:=World.cells?_some h2
     obtain ⟨o,ho,hj⟩:=ed_open h3 h6
     exact ⟨o,ho,fun j hjl=>(h7 j hjl).trans (hj j hjl)⟩
   by_cases h00:len=0
   · subst h00
     exact ⟨[],_,_,(List.cons.inj h0).1,(fun _ h=>absurd h List.not_mem_nil),Or.inl rfl,Nat.zero_le _⟩
   · obtain ⟨ab,ao,sp⟩:=a
     have hsp:sp=none:=by
       obtain ⟨o,_,e⟩:=hc 0 (by omega)
       have e:=e 0 (by decide)
       simpa [Addr.add] using World.cell?_spot e
     subst hsp
     let g:Nat→Ed:=fun i=>if hi:i < len then (hc i hi).choose else ⟨0,0,0,0⟩
     have hg:∀ i,i < len→EdT (g i)∧∀ j,j < 4→w.cell? ⟨ab,ao+i*4+j,none⟩=some (edV (g i) j):=fun i hi=>by
       have hs:=(hc i hi).choose_spec
       have eg:g i=(hc i hi).choose:=dif_pos hi
       rw [eg]
       refine ⟨hs.1,fun j hj=>?_⟩
       have q:=hs.2 j hj
       have q2:(((⟨ab,ao,none⟩:Addr).add (i*4)).add j)=⟨ab,ao+i*4+j,none⟩:=by rw [add_none,add_none]
       exact q2▸q
     refine ⟨(List.range len).map g,some ⟨ab,ao,none⟩,m',?_,?_,Or.inr ⟨ab,ao,rfl,fun i hi j hj=>?_⟩,?_⟩
     · rw [List.length_map,List.length_range];exact (List.cons.inj h0).1
     · intro o ho
       obtain ⟨i,hi,rfl⟩:=List.mem_map.1 ho
       exact (hg i (List.mem_range.1 hi)).1
     · rw [List.length_map,List.length_range] at hi
       rw [List.getElem_map,List.getElem_range]
       exact (hg i hi).2 j hj
     · rw [List.length_map,List.length_range]
       simp only [reachBytes] at hwz
       omega
theorem kbu8 {n:Int} (h:IntKind.u8.min≤n∧n≤IntKind.u8.max):0≤n∧n < 256:=by
  have h':(0:Int)≤n∧n≤255:=h
  omega
theorem cellsU8W:Tryz.prog.cellsOf 5=1:=by kernel_rfl
theorem weightsAll_mem {H:Type} {P:Program} {e:TypeId}:∀ {l:List (DataW H)} {d:DataW H},d∈l→∀ n∈d.weights P e,n∈DataW.weightsAll P e l
 | [],_,h,_,_=>by cases h
 | x::l,d,h,n,hn=>by
  rw [DataW.weightsAll]
  rcases List.mem_cons.1 h with rfl | h
  · exact List.mem_append_left _ hn
  · exact List.mem_append_right _ (weightsAll_mem h n hn)
theorem byts_open {H:Type} {enc:TypeId×Value→H} {w:World} {base:Nat} {held:Bool} {fuel:Nat} {cs:List Value} {x:DataW H×List MemPlace} (h:DataW.trod enc Tryz.prog w base (fun _=>true) held fuel 59 cs=some x) (hw:∀ n∈x.1.weights Tryz.prog 59,n≤reachBytes):∃ a cap l,cs=[.slice a l.length cap]∧InA w a cap l:=by
  rcases open_ints Tryz.underlying59 Tryz.underlying5 cellsU8W h with ⟨hcs,_⟩ | ⟨a,len,cap,zs,hcs,_,hl,hm,hz,hx,hcell,hwz⟩
  · exact ⟨none,0,[],hcs,Or.inl rfl⟩
  · simp only [if_true] at hz
    subst hx
    have h1:cap*1≤reachBytes:=hw _ (by
      unfold DataW.weights
      rw [Tryz.underlying59]
      show _∈(_*Tryz.prog.bytesOf 5)::_
      rw [show Tryz.prog.bytesOf 5=1 from by kernel_rfl]
      have:(lits (H:=H) .u8 (zs.take len)).length+(lits (H:=H) .u8 (zs.drop len)).length=cap:=by
        unfold lits
        rw [List.length_map,List.length_map,← List.length_append,List.take_append_drop,hz]
      rw [this]
      exact .head _)
    have hlen:(zs.take len).length=len:=by rw [List.length_take];omega
    by_cases h0:len=0
    · subst h0
      exact ⟨some a,cap,[],hcs,Or.inl rfl⟩
    obtain ⟨ab,ao,sp⟩:=a
    have hsp:sp=none:=by simpa [Addr.add] using World.cell?_spot (hcell 0 (by omega))
    subst hsp
    refine ⟨some ⟨ab,ao,none⟩,cap,zs.take len,by rw [hlen];exact hcs,Or.inr ⟨ab,ao,rfl,fun i hi=>?_,fun x hx=>?_,?_,by rw [hlen];exact hl,by unfold maxLen at hm;omega,by rw [hlen];simp only [reachBytes] at h1;omega⟩⟩
    · rw [hlen] at hi
      have:=hcell i (by omega)
      rw [add_none] at this
      rw [this,List.getD_eq_getElem?_getD,List.getElem?_eq_getElem (by omega),List.getElem_take]
      rfl
    · have:=wfk (hwz x (List.mem_of_mem_take hx))
      exact kbu8 this
    · have:=hcell 0 (by omega)
      rw [add_none] at this
      exact block_lt_of_cell this
theorem frs_open {H:Type} {enc:TypeId×Value→H} {w:World} {base:Nat} {held:Bool} {v:Value} {d:DataW H} {p:List MemPlace} (h:DataW.Trod enc Tryz.prog w base (fun _=>true) held 66 v d p) (hs:∃ a l c,v=.slice a l c) (hw:∀ n∈d.weights Tryz.prog 66,n≤reachBytes):∃ (fs:List (List Int)) (a:Option Addr) (cap:Nat),v=.slice a fs.length cap∧FrsIs w a fs:=by
 obtain ⟨fuel,h⟩:=h
 obtain ⟨va,vl,vc,rfl⟩:=hs
 rcases open_slice Tryz.underlying66 h with ⟨h0,_⟩ | ⟨a,len,cap,m',n'',D,Pl,h0,hb,hle,hm,hmm,hz,hall⟩
 · exact ⟨[],none,0,(List.cons.inj h0).1,Or.inl rfl⟩
 · rw [show Tryz.prog.cellsOf 59=1 from by kernel_rfl] at hall
   simp only [if_true] at hmm
   subst hmm
   simp only [Prod.mk.injEq] at hz
   obtain ⟨rfl,rfl⟩:=hz
   have hwi:∀ i,i < len→∀ n∈(D i).weights Tryz.prog 59,n≤reachBytes:=fun i hi n hn=>by
     refine hw n ?_
     unfold DataW.weights
     rw [Tryz.underlying66]
     exact List.mem_cons_of_mem _ (List.mem_append_left _ (weightsAll_mem (List.mem_map.2 ⟨i,List.mem_range.2 hi,rfl⟩) n hn))
   have hc:∀ i,i < len→∃ l:List Int,∃ ai ci,w.cell? (a.add i)=some (.slice ai l.length ci)∧InA w ai ci l:=fun i hi=>by
     obtain ⟨cs',h2,h3⟩:=hall i (by omega)
     obtain ⟨_,h6,h7⟩:=World.cells?_some h2
     obtain ⟨ai,ci,l,e,hA⟩:=byts_open h3 (hwi i hi)
     subst e
     refine ⟨l,ai,ci,?_,hA⟩
     have q:=h7 0 (by simp)
     rw [Nat.mul_one] at q
     simpa [Addr.add] using q
   by_cases h00:len=0
   · subst h00
     exact ⟨[],_,_,(List.cons.inj h0).1,Or.inl rfl⟩
   · obtain ⟨ab,ao,sp⟩:=a
     have hsp:sp=none:=by
       obtain ⟨_,_,_,e,_⟩:=hc 0 (by omega)
       simpa [Addr.add] using World.cell?_spot e
     subst hsp
     let g:Nat→List Int:=fun i=>if hi:i < len then (hc i hi).choose else []
     have hg:∀ i,i < len→∃ ai ci,w.cell? ⟨ab,ao+i,none⟩=some (.slice ai (g i).length ci)∧InA w ai ci (g i):=fun i hi=>by
       have hs:=(hc i hi).choose_spec
       have eg:g i=(hc i hi).choose:=dif_pos hi
       rw [eg]
       obtain ⟨ai,ci,q1,q2⟩:=hs
       have q3:((⟨ab,ao,none⟩:Addr).add i)=⟨ab,ao+i,none⟩:=add_none ..
       exact ⟨ai,ci,q3▸q1,q2⟩
     refine ⟨(List.range len).map g,some ⟨ab,ao,none⟩,m',?_,Or.inr ⟨ab,ao,rfl,fun i hi=>?_⟩⟩
     · rw [List.length_map,List.length_range];exact (List.cons.inj h0).1
     · rw [List.length_map,List.length_range] at hi
       rw [List.getElem_map,List.getElem_range]
       exact hg i hi
def HeardFact:Prop:=∀ (fs:List (List Int)) (es:List Ed) (af:Option Addr) (cf:Nat) (a:Option Addr) (c:Nat) (w:World),FrsIs w af fs→EdsIs w a es→(∀ e∈es,EdT e)→es.length≤140737488355328→Env w→15≤w.heap.size →
 Calls Tryz.prog 13 #[.slice af fs.length cf,.slice a es.length c] w fun e w'=>e=.returned (.bool true)∧Below w.heap.size w w'
theorem contractV (hX:HeardFact) (H:Type) (enc:TypeId×Value→H) (W:World) (base:Nat) (args:Array Value) (ds gs:List (DataW H)) (before:List MemPlace)
  (hval:∀ (j:Nat) t v,Tryz.f13.params[j]?=some t→args[j]?=some v→Value.okWide Tryz.prog W .any base t v)
  (hW:DataW.Whole enc Tryz.prog Tryz.f13.params.toList Rows.heardSpec.vars false W args.toList ds gs before)
  (hsz:(DataW.weightsEach Tryz.prog (Tryz.f13.params.toList++(OpenSpec.ofChange Rows.heardSpec).bare.plain.varTypes Tryz.prog) (ds++gs)).all (·≤reachBytes)=true) (hL:laidMetH Tryz.prog Rows.heardRow.laid W) (hSh:W.ShapedOpen Tryz.prog) :
  Calls Tryz.prog 13 args W fun e W'=>∃ v,e=.returned v∧Rows.heardSpec.post enc Tryz.prog Tryz.f13 false true false false W args v W':=by
 have hW':=hW
 obtain ⟨p,q,hA0,hV,rfl,hfz,hnd⟩:=hW
 have hA:DataW.TrodAll enc Tryz.prog W 0 (fun _=>true) true Tryz.f13.params.toList args.toList ds p:=hA0
 rw [Tryz.params13] at hA hval hsz
 obtain ⟨v0,vs0,d0,ds0,p0,q0,hargs,rfl,rfl,h0,r0⟩:=trodAll_cons hA
 obtain ⟨v1,vs1,d1,ds1,p1,q1,hargs1,rfl,rfl,h1,r1⟩:=trodAll_cons r0
 obtain ⟨rfl,rfl,rfl⟩:=trodAll_nil r1
 subst hargs1
 obtain rfl:args=#[v0,v1]:=by cases args;simp_all
 obtain ⟨rfl,rfl⟩:=trodVars_none hV
 clear hA0
 simp only [List.append_nil] at hW' hsz
 have hlt:∀ x∈p0++p1,x.block < W.heap.size:=fun x hx=>hW'.lt x hx
 have hw0:∀ n∈d0.weights Tryz.prog 66,n≤reachBytes:=fun n hn=>by
  have:=List.all_eq_true.1 hsz n (DataW.weights_mem_each (j:=0) (t:=66) rfl rfl n hn)
  simpa using this
 have hw1:∀ n∈d1.weights Tryz.prog 26,n≤reachBytes:=fun n hn=>by
  have:=List.all_eq_true.1 hsz n (DataW.weights_mem_each (j:=1) (t:=26) rfl rfl n hn)
  simpa using this
 have hEn:Env W:=env_of hL
 have hg9:=globals_of hSh
 obtain ⟨fs,af,cf,rfl,hF⟩:=frs_open h0 (okWide_slice Tryz.underlying66 (hval 0 66 v0 rfl rfl)) hw0
 obtain ⟨es,a,c,rfl,hT,hO,hn⟩:=eds_open h1 (okWide_slice Tryz.underlying26 (hval 1 26 v1 rfl rfl)) hw1
 refine (hX fs es af cf a c W hF hO hT (by omega) hEn hg9).mono fun e W' ⟨he,bel⟩=>?_
 subst he
 refine ⟨_,rfl,_,_,_,[],p0++p1,[],hW',?_,?_,?_,bel.frame _,fun h=>by cases h⟩
 · exact trodAll_mk1 (shut_bool Tryz.underlying4 true)
 · exact trodAll_mk2 (Below.trod laidOutV (by kernel_rfl) (of_decide_eq_true (by kernel_rfl)) h0 bel (fun x hx=>hlt x (List.mem_append_left _ hx))) (Below.trod laidOutV (by kernel_rfl) (of_decide_eq_true (by kernel_rfl)) h1 bel (fun x hx=>hlt x (List.mem_append_right _ hx)))
 · rfl
theorem liftedV (hX:HeardFact) (os:Os) (started:os.Started) (H:Type) (enc:TypeId×Value→H) (F:Stop.Interp) :
  ReturnsInHanded {} Tryz.checked os 13 .any ((OpenSpec.ofChange Rows.heardSpec).preRow enc Tryz.prog Tryz.f13 Rows.heardRow.domain false Rows.heardRow.laid) (((OpenSpec.ofChange Rows.heardSpec).at F).post enc Tryz.prog Tryz.f13 false true false false):=by
 obtain ⟨places,hx⟩:=readsV os enc
 refine returnsInHanded_of_row (C:=Tryz.checked) (s:=OpenSpec.ofChange Rows.heardSpec) own started (by kernel_rfl) Tryz.func13
  (witness_row_atRef (enc:=enc) (C:=Tryz.checked) false (laidWorld Tryz.prog os) #[.slice none 0 0,.slice none 0 0] rfl (by kernel_rfl) (by kernel_rfl) (by kernel_rfl)
   (OpenSpec.preRow_of_cond 8 hx (by kernel_rfl) (fun k hk=>by cases hk) (by kernel_rfl) (laid_met os _))) ?_
 intro W base args ds gs before hval hW _ _ hsz hL hSh _
 exact contractV hX H enc W base args ds gs before hval hW hsz hL hSh
theorem plainV (f:FuncId) (fn:Func) (hf:Tryz.pinned.checked.prog.funcNamed Rows.heardRow.func=some f) (hfn:Tryz.pinned.checked.prog.funcs[f]?=some fn) :
  true=Tryz.pinned.checked.prog.looks []∧∀ (j:Nat) t,fn.params[j]?=some t→Tryz.pinned.checked.prog.wantsStandIn t=false:=by
 obtain rfl:f=13:=Option.some.inj ((show Tryz.prog.funcNamed Rows.heardRow.func=some 13 by kernel_rfl).symm.trans hf) |>.symm
 obtain rfl:fn=Tryz.f13:=(Option.some.inj (Tryz.func13.symm.trans hfn)).symm
 refine ⟨by kernel_rfl,fun j t ht=>?_⟩
 rw [Tryz.params13] at ht
 have ht:=Array.mem_of_getElem? ht
 simp only [List.mem_toArray,List.mem_cons,List.not_mem_nil,or_false] at ht
 rcases ht with rfl | rfl <;> exact (show Tryz.prog.wantsStandIn _=false by kernel_rfl)
theorem kw0:(Rows.heardRow.wf (OpenSpec.ofChange (OpenSpec.ofChange Rows.heardSpec).bare):Bool)=true:=by kernel_rfl
theorem kw4:(namedTie Tryz.prog Rows.heardRow.named (OpenSpec.ofChange Rows.heardSpec).bare.vars:Bool)=true:=by kernel_rfl
theorem kw13:((Rows.heardRow.maps==(Tryz.f13.params.toList++(OpenSpec.ofChange Rows.heardSpec).bare.plain.varTypes Tryz.prog).any (Tryz.prog.mapsRec ·)):Bool)=true:=by kernel_rfl
theorem kw14:((Rows.heardRow.ifaces==(Tryz.f13.params.toList++(OpenSpec.ofChange Rows.heardSpec).bare.plain.varTypes Tryz.prog).any (Tryz.prog.ifacesRec ·)):Bool)=true:=by kernel_rfl
theorem kw16:((Rows.heardRow.loops==(Tryz.f13.params.toList++(OpenSpec.ofChange Rows.heardSpec).bare.plain.varTypes Tryz.prog).any (Tryz.prog.loopsFrom ·)):Bool)=true:=by kernel_rfl
theorem kw17:((Rows.heardRow.wideKeys==(Tryz.f13.params.toList++(OpenSpec.ofChange Rows.heardSpec).bare.plain.varTypes Tryz.prog++Tryz.f13.resultTypes.toList).any (Tryz.prog.wideKeysFrom ·)):Bool)=true:=by kernel_rfl
theorem kw18:((OpenSpec.ofChange Rows.heardSpec).bare.vars.all (Tryz.prog.varReadable ·):Bool)=true:=by kernel_rfl
theorem kw30:((Rows.heardRow.veiled==(Tryz.f13.params.toList++(OpenSpec.ofChange Rows.heardSpec).bare.plain.varTypes Tryz.prog++Tryz.f13.resultTypes.toList).any (Tryz.prog.veiledRec ·)):Bool)=true:=by kernel_rfl
theorem kw31:(Rows.heardRow.veiledFits Tryz.prog Tryz.f13.params.toList (Tryz.f13.params.toList++(OpenSpec.ofChange Rows.heardSpec).bare.plain.varTypes Tryz.prog++Tryz.f13.resultTypes.toList):Bool)=true:=by kernel_rfl
theorem factsV:joinedFacts Tryz.prog 13 Tryz.f13 (OpenSpec.ofChange Rows.heardSpec).bare Rows.heardRow=true:=
 (and_v (and_v (and_v (and_v (and_v (and_v (and_v (and_v (and_v (and_v (and_v (and_v (and_v (and_v (and_v (and_v (and_v (and_v (and_v (and_v (and_v (and_v (and_v (and_v (and_v (and_v (and_v (and_v (and_v (and_v (and_v kw0 kv1) kv2) kv3) kw4) kv5) kv6) kv7) kv8) kv9) kv10) kv11) kv12) kw13) kw14) kv15) kw16) kw17) kw18) kv19) kv20) kv21) kv22) kv23) kv24) kv25) kv26) kv27) kv28) kv29) kw30) kw31)
theorem pinned_progV:Tryz.pinned.checked.prog=Tryz.prog:=by kernel_rfl
theorem facts2V:joinedFacts Tryz.pinned.checked.prog 13 Tryz.f13 (OpenSpec.ofChange Rows.heardSpec).bare Rows.heardRow=true:=by
 rw [pinned_progV];exact factsV
theorem saidV (hX:HeardFact):Rows.HeardSaid:=
 OpenClaim.holds_of_cond 13 Tryz.f13 rfl rfl rfl rfl rfl rfl rfl ⟨rfl,rfl,rfl,rfl,rfl⟩ rfl rfl rfl rfl rfl (by kernel_rfl) Tryz.func13 facts2V
  (of_decide_eq_true (by kernel_rfl)) (by unfold Func.isWrapper;first | (rw [if_pos (by decide +kernel)];kernel_rfl) | (rw [if_neg (by decide +kernel)];exact ⟨rfl,rfl⟩))
  (fun os started H enc _ F=>by rw [OpenClaim.pre_eq_preRow];exact liftedV hX os started H enc F)
theorem hwV:Rows.heardRow.wfByText (OpenSpec.ofChange Rows.heardSpec)=true:=by kernel_rfl
theorem hmV:Tryz.pinned.checked.prog.mainIs=some (Rows.heardCard.stood.harness.1,Rows.heardCard.stood.harness.2.toList):=by
 rw [pinned_progV];kernel_rfl
theorem hgV:false=Rows.heardRow.goesBy Tryz.pinned.checked.prog:=by
 rw [pinned_progV]
 unfold OpenClaim.goesBy Program.goesAt
 rw [goes_from,show Rows.heardRow.start=.entering from rfl]
 rfl
theorem cardV (hX:HeardFact):Rows.HeardCardSaid:=
 Claim7.holds_tied_plain_at .later [] _ _ _ _ (saidV hX) (fun _ h=>by cases h) hwV (fun _ h=>by cases h) heard_row_tie rfl ⟨rfl,rfl⟩ hmV rfl plainV hgV
theorem heard_card:Rows.HeardCardSaid:=cardV heard_any
end Go.Proofs.YtgccjefbedpmpaaGreatDoor

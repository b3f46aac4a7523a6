import Derived.Test.YtgccjefbedpmpaaGreatDoorYTextU
import Derived.Test.YtgccjefbedpmpaaGreatDoorYInsr
namespace Go.Proofs.YtgccjefbedpmpaaGreatDoor
open Go.RowKit Go.MuLone
set_option maxRecDepth 100000
set_option maxHeartbeats 8000000
variable {b i : Nat} {cl k n ss : Int} {o o2 : Opn} {os ws : List Opn} {vK vW : Value} {w' : World}
def writeM (cl:Int) (t:Tr) (ws:List Opn) (o:Opn):Opn×Int×(Tr×List Opn):=
 if noRoom cl t then (o0,7,(t,ws)) else (ownOf cl t o,0,takeL (lessKey (ownOf cl t o).key ws).length (t.with (ownOf cl t o) (rkOf (ownOf cl t o).key)) (lessKey (ownOf cl t o).key ws))
def insM (cl:Int) (t:Tr) (ws L:List Opn) (at' ch:Int):Opn×Int×(Tr×List Opn):=
 if at'<0∨(L.length:Int)<at' then (o0,2,(t,ws)) else if okChar ch=false then (o0,3,(t,ws)) else writeM cl t ws ⟨1,0,0,0,refAt L at',ch⟩
def delM (cl:Int) (t:Tr) (ws L:List Opn) (at':Int):Opn×Int×(Tr×List Opn):=
 if at'<0∨(L.length:Int)≤at' then (o0,2,(t,ws)) else writeM cl t ws ⟨2,0,0,0,(getO L[at'.toNat]?).key,0⟩
theorem TakeP.same {w:World} {st:Int} {top:Value} {t:Tr} (h:BookIs w b st cl ss top vW vK t ws) (hb:Bel w w'):TakeP b st cl ss vK vW (t,ws) w w':=⟨top,vW,h.below hb,rfl,But.below hb⟩
theorem WriteQ.book {w:World} {st:Int} {top:Value} {t:Tr} (h:BookIs w b st cl ss top vW vK t ws) (q:WriteQ b st cl ss vK vW t ws o o2 n w w'):∃ R,writeM cl t ws o=(o2,n,R)∧TakeP b st cl ss vK vW R w w':=by
 unfold writeM;rcases q with ⟨h1,rfl,rfl,hb⟩|⟨h1,rfl,rfl,hT⟩
 ·exact ⟨_,by rw [if_pos h1],TakeP.same h hb⟩
 ·exact ⟨_,by rw [if_neg (by rw [h1];simp)],hT⟩
theorem BInsQ.book {w:World} {st:Int} {top:Value} {t:Tr} {L:List Opn} {at' ch:Int} (h:BookIs w b st cl ss top vW vK t ws) (q:BInsQ b st cl ss vK vW t ws L at' ch o2 n w w'):∃ R,insM cl t ws L at' ch=(o2,n,R)∧TakeP b st cl ss vK vW R w w':=by
 unfold insM;rcases q with ⟨h1,rfl,rfl,hb⟩|⟨h1,h2,h3,rfl,rfl,hb⟩|⟨h1,h2,h3,hq⟩
 ·exact ⟨_,by rw [if_pos h1],TakeP.same h hb⟩
 ·exact ⟨_,by rw [if_neg (by omega),if_pos h3],TakeP.same h hb⟩
 ·rw [if_neg (by omega),if_neg (by rw [h3];simp)];exact hq.book h
theorem BDelQ.book {w:World} {st:Int} {top:Value} {t:Tr} {L:List Opn} {at':Int} (h:BookIs w b st cl ss top vW vK t ws) (q:BDelQ b st cl ss vK vW t ws L at' o2 n w w'):∃ R,delM cl t ws L at'=(o2,n,R)∧TakeP b st cl ss vK vW R w w':=by
 unfold delM;rcases q with ⟨h1,rfl,rfl,hb⟩|⟨h1,h2,hq⟩
 ·exact ⟨_,by rw [if_pos h1],TakeP.same h hb⟩
 ·rw [if_neg (by omega)];exact hq.book h
theorem BookIs.locked {w:World} {top:Value} {t:Tr} (h:BookIs w b 0 cl ss top vW vK t ws):BookIs (w.setCell (Ad b 0) (I3 1)) b 1 cl ss top vW vK t ws:=
 ⟨rep_lock h.row,Qf h.row (by decide) (But.set b 0 _) h.tree,kp h.own fun g hg=>heap_setCell_other _ _ _ _ (fun e=>h.apart hg e),h.typ,h.wtyp,h.wlen,h.size,h.env.but (But.set b 0 _) (fun x e=>e▸h.far) (by have:=h.row.lt;have:=h.far;omega),h.far,h.wfar⟩
theorem BookIs.free {w:World} {top:Value} {t:Tr} (h:BookIs w b 1 cl ss top vW vK t ws):BookIs (w.setCell (Ad b 0) (I3 0)) b 0 cl ss top vW vK t ws:=
 ⟨rep_unlock h.row,Qf h.row (by decide) (But.set b 0 _) h.tree,kp h.own fun g hg=>heap_setCell_other _ _ _ _ (fun e=>h.apart hg e),h.typ,h.wtyp,h.wlen,h.size,h.env.but (But.set b 0 _) (fun x e=>e▸h.far) (by have:=h.row.lt;have:=h.far;omega),h.far,h.wfar⟩
structure AdS (w W:World) (b:Nat) (st cl ss:Int) (top vW vK:Value) (o:Opn):Prop where
 below:Bel w W
 row:RowIs W b 118 7 (rep7 st cl top vW ss vK)
 box:RowIs W w.heap.size 43 6 (opV o)
theorem AdS.kept {w W W2:World} {st:Int} {top:Value} (h:AdS w W b st cl ss top vW vK o) (hb:Bel W W2):AdS w W2 b st cl ss top vW vK o:=⟨h.below.trans (hb.mono h.below.size),h.row.below hb h.row.lt,h.box.below hb h.box.lt⟩
theorem AdS.over {w W:World} {st:Int} {top:Value} (h:AdS w W b st cl ss top vW vK o):w.heap.size<W.heap.size:=h.box.lt
theorem AdS.put {w W:World} {g:Nat} {st:Int} {top:Value} (h:AdS w W b st cl ss top vW vK o) (hg:w.heap.size<g) (hb:b<w.heap.size) (cs:Array Value):AdS w (W.setRow g cs) b st cl ss top vW vK o:=⟨kn h.below (yz hg) _,h.row.setRowOther (by omega) _,h.box.setRowOther (by omega) _⟩
theorem AdS.new (w:World) {st:Int} {top:Value} (o:Opn) (h:RowIs w b 118 7 (rep7 st cl top vW ss vK)):AdS w (w.alloc (.cells (oC o) 43)) b st cl ss top vW vK o:=⟨kq _ _,h.alloc _,RowIs.last (n:=6) (f:=opV o) (cs:=(oC o)) rfl rfl⟩
theorem bsF_any (hp:BsP (fun x=>cmpI x.key k) ws i) (hs:ByKey ws):bsF (fun x=>cmpI x.key k) ws i=ws.any (fun x=>decide (x.key=k)):=by
 cases hf:bsF (fun x=>cmpI x.key k) ws i with
 | false=>
  have h1:=lessKey_no hp hs hf
  symm
  rw [List.any_eq_false];intro x hx;rw [← h1] at hx;have:=(qo.1 hx).2;simpa using this
 | true=>
  have h2:=(lessKey_yes hs hf).1
  symm
  rw [List.any_eq_true];refine ⟨ws[i],qn h2,?_⟩;unfold bsF at hf;rw [qk h2] at hf;rw [decide_eq_true_eq];exact (cmpE _ _).1 (by simpa using hf)
theorem insIdx_putK (hp:BsP (fun x=>cmpI x.key k) ws i) (ho:o.key=k):ws.insertIdx i o=putK o ws:=by
 rw [insIdx_eq o i ws hp.le]
 have ha:∀ x∈ws.take i,x.key<k:=fun x hx=>by
  obtain ⟨j,hj,rfl⟩:=qw.1 hx;rw [qm] at hj;rw [jq];exact (cmpL _ _).1 (hp.ahead j (by omega) (by omega))
 have hb:∀ x∈ws.drop i,¬ x.key<k:=fun x hx=>by
  obtain ⟨j,hj,rfl⟩:=qw.1 hx;rw [qt] at hj;rw [yk];have h5:0≤cmpI (ws[i+j]'(by omega)).key k:=hp.behind (i+j) (by omega) (by omega);exact fun q=>by have:=(cmpL (ws[i+j]'(by omega)).key k).2 q;omega
 have e0:ws=ws.take i++ws.drop i:=(jh i ws).symm;unfold putK
 conv=>rhs;rw [e0]
 rw [zt,zt,filter_all (l:=ws.take i) (fun x hx=>by rw [ho];simpa using ha x hx),filter_non (l:=ws.drop i) (fun x hx=>by rw [ho];simpa using hb x hx),filter_non (p:=fun x=>!decide (x.key<o.key)) (l:=ws.take i) (fun x hx=>by rw [ho];simpa using ha x hx),filter_all (p:=fun x=>!decide (x.key<o.key)) (l:=ws.drop i) (fun x hx=>by rw [ho];simpa using hb x hx)];simp
theorem bAdd_known (b:Nat) (st cl ss:Int) (top vW vK:Value) (t:Tr) (ws:List Opn) (o:Opn) (w:World) (H:BookIs w b st cl ss top vW vK t ws) (hby:ByKey ws) (hT:OpT o) (hok:o.ok=true) (tb wb:Bool) (htb:(t.get o.key).isSome=tb) (hwb:ws.any (fun x=>decide (x.key=o.key))=wb) (hkn:(tb||wb)=true) :
  Cs 51 #[(pt b 2),.agg (oC o)] w fun e w'=>e=.returned (I6 5)∧Bel w w':=by
 have HBk:=vm H;obtain ⟨p0,rfl⟩:=H.tree.ptr;obtain ⟨a0,c0,rfl⟩:=kt H.own;have hbl:=H.row.lt;have HT:=vm hT
 have HBY:=vm hby
 have H0:Hid (AdS w (w.alloc (.cells (oC o) 43)) b st cl ss (.pointer p0) (.slice a0 ws.length c0) vK o):=AdS.new w o H.row;have HR:Hid (Cs 92 #[.agg (oC o)] (w.alloc (.cells (oC o) 43)) fun e w'=>e=.returned .nilIface∧Below (w.alloc (.cells (oC o) 43)).heap.size (w.alloc (.cells (oC o) 43)) w'):=(Qw _ _ _ _ _ _ hT.cl hT.ck hT.rf.1 hT.rf.2 _ (H.below (kq _ _)).env.sents).mono fun e w' ⟨x,e1,e2,_,e4⟩=>⟨by rw [e1,e2 hok],e4⟩;have HG:Hid (∀ W,Bel w W→Cs 94 #[.agg #[.pointer p0],U6 (o.cl*1048576+o.ck)] W fun e w'=>(∃ x:Opn,e=.returned (.tuple #[.agg (oC x),.bool tb]))∧Bel W w'):=fun W hW=>(sGet_any _ t _ W (HBk.out.tree.below hW) HBk.out.typ).mono fun e w' ⟨e1,e2⟩=>⟨⟨getO (t.get o.key),by rw [e1,getV_eq];show _=Ending.returned (.tuple #[_,.bool tb]);rw [← htb];rfl⟩,e2⟩;have HWt:Hid (∀ W,Bel w W→Cs 95 #[(pt b 2),U6 (o.cl*1048576+o.ck)] W fun e w'=>(∃ i:Nat,BsP (fun x=>cmpI x.key o.key) ws i∧e=.returned (.tuple #[I6 i,.bool wb]))∧Bel W w'):=fun W hW=>(Qv b st cl ss _ vK a0 c0 ws _ W (HBk.out.below hW).row (OwnO.is (HBk.out.below hW).own) (by have:=HBk.out.wlen;omega) HBY.out HBk.out.wtyp).mono fun e w' ⟨⟨i,e1,e2⟩,e3⟩=>⟨⟨i,e1,by rw [e2,← hwb,← bsF_any (k:=o.key) e1 HBY.out];rfl⟩,e3⟩;clear htb hwb;clear H hby hT hok;go_enter Tryz.func51,Tryz.ntmps51;cases tb<;>cases wb
 ·cases hkn
 all_goals (
 go_wp2_with (first
  | (go_at_call 92;refine HR.out.mono ?_;rintro e w1 ⟨rfl,hb1⟩;have H1:Hid (AdS w w1 b st cl ss (.pointer p0) (.slice a0 ws.length c0) vK o):=H0.out.kept hb1;obtain ⟨q0,q1,q2,q3,q4,q5⟩:=vq H1.out.box;have c3:=H1.out.row.cell (j:=3) (by omega);clear hb1 H0 HR)
  | (go_at_call 59;refine (Qu _).mono ?_;rintro e w2 ⟨rfl,hw2⟩;obtain rfl:=hw2.symm)
  | (go_at_call 93;refine (kz _ _ _ _ _ _ HT.out.cl HT.out.ck _).mono ?_;rintro e w3 ⟨rfl,hb3⟩;have H3:Hid (AdS w w3 b st cl ss (.pointer p0) (.slice a0 ws.length c0) vK o):=H1.out.kept hb3;have c3:w3.cell? (Ad b 3)=some (.pointer p0):=H3.out.row.cell (j:=3) (by omega);clear q0 q1 q2 q3 q4 q5 hb3 H1)
  | (go_at_call 94;refine (HG.out _ H3.out.below).mono ?_;rintro e w4 ⟨⟨x,rfl⟩,hb4⟩;have H4:Hid (AdS w w4 b st cl ss (.pointer p0) (.slice a0 ws.length c0) vK o):=H3.out.kept hb4;have R4:RowIs (w4.alloc (.cells oZ 43)) w4.heap.size 43 6 (opV o0):=RowIs.last (n:=6) (f:=opV o0) (cs:=oZ) rfl rfl;clear hb4 H3 c3 HG)
  | (refine wpList_store_row rfl 43 (.tmp 7) (.tmp 26) rfl w4.heap.size (rowOf 6 (opV x)) rfl rfl _ _ R4 (by rw [rowOf_size];exact vd) (by rw [rowOf_size,rowOf_size]) (vh _) ?_;have H5:Hid (AdS w ((w4.alloc (.cells oZ 43)).setRow w4.heap.size (rowOf 6 (opV x))) b st cl ss (.pointer p0) (.slice a0 ws.length c0) vK o):=(H4.out.kept (kq _ _)).put H4.out.over hbl _;clear R4 H4;generalize World.setRow _ _ _=w5 at H5 ⊢)
  | (go_at_call 95;refine (HWt.out _ H5.out.below).mono ?_;rintro e w6 ⟨⟨i,hbp,rfl⟩,hb6⟩;have H6:Hid (AdS w w6 b st cl ss (.pointer p0) (.slice a0 ws.length c0) vK o):=H5.out.kept hb6;have HP:=vm hbp;obtain ⟨q0,q1,q2,q3,q4,q5⟩:=vq H6.out.box;have c4:w6.cell? (Ad b 4)=some (.slice a0 ws.length c0):=H6.out.row.cell (j:=4) (by omega);clear hb6 hbp H5 HWt))
 go_ret
 exact ⟨rfl,H6.out.below⟩)
theorem rdy_list {t:Tr} (h:ByKey t.list):rdy t=readyL t.list:=by
 funext o
 unfold rdy readyL;rw [get_list _ t h,get_list _ t h]
theorem takeL_list:∀ (n:Nat) {t:Tr} {ws:List Opn},BookOk t.list ws→(takeL n t ws).1.list=(takeN n t.list ws).1∧(takeL n t ws).2=(takeN n t.list ws).2
 | 0,_,_,_=>⟨rfl,rfl⟩
 | n+1,t,ws,h=>by
  unfold takeL takeN;rw [rdy_list h.set.by',Tr.list_len];by_cases hf:120≤t.size
  ·rw [if_pos hf,if_pos hf];exact ⟨rfl,rfl⟩
  ·rw [if_neg hf,if_neg hf]
   cases hi:ws.findIdx? (readyL t.list) with
   | none=>exact ⟨rfl,rfl⟩
   | some i=>
    have hk:=h.next (by rw [Tr.list_len];exact hf) hi;obtain ⟨hi1,-,-⟩:=zx.1 hi;have e:getO ws[i]?=ws[i]:=by rw [qk hi1];rfl
    have hl:=with_list (getO ws[i]?) (rkOf (getO ws[i]?).key) t h.set.by' (fun x hx=>by rw [e];exact h.apart x hx _ (qn hi1))
    rw [← hl] at hk;have:=takeL_list n hk;rw [hl] at this;exact this
def writeN (cl:Int) (os ws:List Opn) (o:Opn):Opn×Int×(List Opn×List Opn):=
 if roomL cl os then (o0,7,(os,ws)) else (ownL cl os o,0,takeN (lessKey (ownL cl os o).key ws).length (putK (ownL cl os o) os) (lessKey (ownL cl os o).key ws))
def insN (cl:Int) (os ws:List Opn) (at' ch:Int):Opn×Int×(List Opn×List Opn):=
 if at'<0∨((visR os).length:Int)<at' then (o0,2,(os,ws)) else if okChar ch=false then (o0,3,(os,ws)) else writeN cl os ws ⟨1,0,0,0,refAt (visR os) at',ch⟩
def delN (cl:Int) (os ws:List Opn) (at':Int):Opn×Int×(List Opn×List Opn):=
 if at'<0∨((visR os).length:Int)≤at' then (o0,2,(os,ws)) else writeN cl os ws ⟨2,0,0,0,(getO (visR os)[at'.toNat]?).key,0⟩
def OwnRf (os:List Opn) (o:Opn):Prop:=(o.rf=0∨∃ p∈os,p.key=o.rf∧p.kd=1)∧((o.kd=1∧okChar o.ch=true)∨(o.kd=2∧o.ch=0∧o.rf≠0))
theorem lessKey_new:∀ x∈lessKey k ws,x.key≠k:=fun x hx=>by simpa using (qo.1 hx).2
theorem own_put (h:BookOk os ws) (hcl:1≤cl∧cl≤1048575) (hr:roomL cl os=false) (ho:OwnRf os o):BookOk (putK (ownL cl os o) os) (lessKey (ownL cl os o).key ws):=
 (lessKey_ok h _).put (own_ok h.set hcl hr ho.1 ho.2) (own_key h.set hr) (by unfold roomL at hr;simp only [jf,decide_eq_false_iff_not] at hr;omega) (own_ready h.set ho.1) lessKey_new
theorem writeN_ok (h:BookOk os ws) (hcl:1≤cl∧cl≤1048575) (ho:OwnRf os o):BookOk (writeN cl os ws o).2.2.1 (writeN cl os ws o).2.2.2:=by
 unfold writeN
 cases hr:roomL cl os with
 | true=>exact h
 | false=>exact takeN_ok _ (own_put h hcl hr ho)
theorem writeM_list {t:Tr} (h:BookOk t.list ws) (hcl:1≤cl∧cl≤1048575) (ho:OwnRf t.list o):(writeM cl t ws o).1=(writeN cl t.list ws o).1∧(writeM cl t ws o).2.1=(writeN cl t.list ws o).2.1∧(writeM cl t ws o).2.2.1.list=(writeN cl t.list ws o).2.2.1∧(writeM cl t ws o).2.2.2=(writeN cl t.list ws o).2.2.2:=by
 have e1:noRoom cl t=roomL cl t.list:=by unfold noRoom roomL;rw [Tr.list_len]
 unfold writeM writeN;rw [e1]
 cases hr:roomL cl t.list with
 | true=>exact ⟨rfl,rfl,rfl,rfl⟩
 | false=>
  have hp:=own_put h hcl hr ho;have hl:=with_list (ownOf cl t o) (rkOf (ownOf cl t o).key) t h.set.by' (own_key (o:=o) h.set hr)
  have e2:ownOf cl t o=ownL cl t.list o:=rfl;rw [e2] at hl;rw [← hl] at hp;have:=takeL_list (lessKey (ownL cl t.list o).key ws).length hp;rw [hl] at this;exact ⟨rfl,rfl,this.1,this.2⟩
theorem visR_mem {x:Opn} (h:x∈visR os):x∈os∧x.kd=1:=by
 have:=toldR_mem os _ _ x (qo.1 h).1;obtain ⟨h1,h2⟩:=qo.1 this;exact ⟨h1,by simpa using h2⟩
theorem ins_own {at' ch:Int} (h1:¬ (at'<0∨((visR os).length:Int)<at')) (hc:okChar ch=true):OwnRf os ⟨1,0,0,0,refAt (visR os) at',ch⟩:=by
 refine ⟨?_,Or.inl ⟨rfl,hc⟩⟩;show refAt (visR os) at'=0∨_;unfold refAt;by_cases h0:0<at'
 ·rw [if_pos h0];have hlt:(at'-1).toNat<(visR os).length:=by omega
  rw [qk hlt];obtain ⟨m1,m2⟩:=visR_mem (qn hlt);exact Or.inr ⟨_,m1,rfl,m2⟩
 ·rw [if_neg h0];exact Or.inl rfl
theorem del_own (hs:SetOk os) {at':Int} (h1:¬ (at'<0∨((visR os).length:Int)≤at')):OwnRf os ⟨2,0,0,0,(getO (visR os)[at'.toNat]?).key,0⟩:=by
 have hlt:at'.toNat<(visR os).length:=by omega
 obtain ⟨m1,m2⟩:=visR_mem (qn hlt);have e:(getO (visR os)[at'.toNat]?)=(visR os)[at'.toNat]:=by rw [qk hlt];rfl
 rw [e];refine ⟨Or.inr ⟨_,m1,rfl,m2⟩,Or.inr ⟨rfl,rfl,?_⟩⟩;have:=okKey_pos (okKey_of (hs.ok _ m1));show (visR os)[at'.toNat].key≠0;omega
theorem insN_ok {at' ch:Int} (h:BookOk os ws) (hcl:1≤cl∧cl≤1048575):BookOk (insN cl os ws at' ch).2.2.1 (insN cl os ws at' ch).2.2.2:=by
 unfold insN;split
 ·exact h
 ·rename_i h1;split
  ·exact h
  ·rename_i h2;exact writeN_ok h hcl (ins_own h1 (by simpa using h2))
theorem delN_ok {at':Int} (h:BookOk os ws) (hcl:1≤cl∧cl≤1048575):BookOk (delN cl os ws at').2.2.1 (delN cl os ws at').2.2.2:=by
 unfold delN;split
 ·exact h
 ·rename_i h1;exact writeN_ok h hcl (del_own h.set h1)
theorem insM_list {t:Tr} {at' ch:Int} (h:BookOk t.list ws) (hcl:1≤cl∧cl≤1048575):(insM cl t ws (visR t.list) at' ch).1=(insN cl t.list ws at' ch).1∧(insM cl t ws (visR t.list) at' ch).2.1=(insN cl t.list ws at' ch).2.1∧(insM cl t ws (visR t.list) at' ch).2.2.1.list=(insN cl t.list ws at' ch).2.2.1∧(insM cl t ws (visR t.list) at' ch).2.2.2=(insN cl t.list ws at' ch).2.2.2:=by
 unfold insM insN;by_cases h1:at'<0∨((visR t.list).length:Int)<at'
 ·rw [if_pos h1,if_pos h1];exact ⟨rfl,rfl,rfl,rfl⟩
 ·rw [if_neg h1,if_neg h1]
  cases h2:okChar ch with
  | false=>exact ⟨rfl,rfl,rfl,rfl⟩
  | true=>exact writeM_list h hcl (ins_own h1 h2)
theorem delM_list {t:Tr} {at':Int} (h:BookOk t.list ws) (hcl:1≤cl∧cl≤1048575):(delM cl t ws (visR t.list) at').1=(delN cl t.list ws at').1∧(delM cl t ws (visR t.list) at').2.1=(delN cl t.list ws at').2.1∧(delM cl t ws (visR t.list) at').2.2.1.list=(delN cl t.list ws at').2.2.1∧(delM cl t ws (visR t.list) at').2.2.2=(delN cl t.list ws at').2.2.2:=by
 unfold delM delN;by_cases h1:at'<0∨((visR t.list).length:Int)≤at'
 ·rw [if_pos h1,if_pos h1];exact ⟨rfl,rfl,rfl,rfl⟩
 ·rw [if_neg h1,if_neg h1];exact writeM_list h hcl (del_own h.set h1)
def addM (t:Tr) (ws:List Opn) (o:Opn):Int×(Tr×List Opn):=
 if o.ok=false then (4,(t,ws)) else if ((t.get o.key).isSome||ws.any (fun x=>decide (x.key=o.key)))=true then (5,(t,ws)) else
 if rdy t o=true then (if 120≤t.size then (7,(t,ws)) else (0,takeL ws.length (t.with o (rkOf o.key)) ws)) else if 12≤ws.length then (7,(t,ws)) else (6,(t,putK o ws))
def addN (os ws:List Opn) (o:Opn):Int×(List Opn×List Opn):=
 if o.ok=false then (4,(os,ws)) else if (os.any (fun x=>decide (x.key=o.key))||ws.any (fun x=>decide (x.key=o.key)))=true then (5,(os,ws)) else
 if readyL os o=true then (if 120≤os.length then (7,(os,ws)) else (0,takeN ws.length (putK o os) ws)) else if 12≤ws.length then (7,(os,ws)) else (6,(os,putK o ws))
theorem any_not (h:os.any (fun x=>decide (x.key=k))=false):∀ x∈os,x.key≠k:=fun x hx=>by
 have:=List.any_eq_false.1 h x hx;simpa using this
theorem add_put (h:BookOk os ws) (ho:o.ok=true) (hk:(os.any (fun x=>decide (x.key=o.key))||ws.any (fun x=>decide (x.key=o.key)))=false) (hl:¬ 120≤os.length) (hr:readyL os o=true):BookOk (putK o os) ws:=by
 obtain ⟨k1,k2⟩:=jf.1 hk;exact h.put ho (any_not k1) (by omega) hr (any_not k2)
theorem addN_ok (h:BookOk os ws):BookOk (addN os ws o).2.1 (addN os ws o).2.2:=by
 unfold addN;split
 ·exact h
 ·rename_i h0;split
  ·exact h
  ·rename_i h1;simp only [Bool.not_eq_false] at h0;simp only [Bool.not_eq_true] at h1;split
   ·rename_i h2;split
    ·exact h
    ·rename_i h3;exact takeN_ok _ (add_put h h0 h1 h3 h2)
   ·split
    ·exact h
    ·rename_i h3;obtain ⟨k1,k2⟩:=jf.1 h1;refine ⟨h.set,putK_by h.by' (any_not k2),fun x hx=>?_,by rw [putK_len];omega,fun x hx y hy=>?_⟩
     ·rcases kw.1 hx with e|q
      ·rw [e];exact h0
      ·exact h.ok x q
     ·rcases kw.1 hy with e|q
      ·rw [e];exact any_not k1 x hx
      ·exact h.apart x hx y q
theorem addM_list {t:Tr} (h:BookOk t.list ws):(addM t ws o).1=(addN t.list ws o).1∧(addM t ws o).2.1.list=(addN t.list ws o).2.1∧(addM t ws o).2.2=(addN t.list ws o).2.2:=by
 have e1:(t.get o.key).isSome=t.list.any (fun x=>decide (x.key=o.key)):=by rw [get_list _ t h.set.by',List.isSome_find?]
 unfold addM addN;rw [e1,rdy_list h.set.by',Tr.list_len]
 cases h0:o.ok with
 | false=>exact ⟨rfl,rfl,rfl⟩
 | true=>
  simp only [Bool.true_eq_false,if_false]
  cases h1:(t.list.any (fun x=>decide (x.key=o.key))||ws.any (fun x=>decide (x.key=o.key))) with
  | true=>exact ⟨rfl,rfl,rfl⟩
  | false=>
   simp only [Bool.false_eq_true,if_false]
   cases h2:readyL t.list o with
   | true=>
    simp only [if_true];by_cases h3:120≤t.size
    ·rw [if_pos h3,if_pos h3];exact ⟨rfl,rfl,rfl⟩
    ·rw [if_neg h3,if_neg h3];have hp:=add_put h h0 h1 (by rw [Tr.list_len];exact h3) h2;have hl:=with_list o (rkOf o.key) t h.set.by' (any_not (jf.1 h1).1)
     rw [← hl] at hp;have:=takeL_list ws.length hp;rw [hl] at this;exact ⟨rfl,this.1,this.2⟩
   | false=>
    simp only [Bool.false_eq_true,if_false];by_cases h3:12≤ws.length
    ·rw [if_pos h3,if_pos h3];exact ⟨rfl,rfl,rfl⟩
    ·rw [if_neg h3,if_neg h3];exact ⟨rfl,rfl,rfl⟩
theorem TakeP.free {R:Tr×List Opn} {w:World} (h:TakeP b 1 cl ss vK vW R w w'):TakeP b 0 cl ss vK vW R w (w'.setCell (Ad b 0) (I3 0)):=by
 obtain ⟨top,v',B,e,k⟩:=h;exact ⟨top,v',B.free,e,k.trans ((But.set b 0 _).mono fun x e=>Or.inl e)⟩
def RInsP (b:Nat) (cl ss:Int) (vK vW:Value) (t:Tr) (ws:List Opn) (at' ch:Int) (w:World) (e:Ending) (w':World):Prop:=
 ∃ L,TextL t.list L∧∃ o2 n R,insM cl t ws L at' ch=(o2,n,R)∧e=.returned (.tuple #[.agg (oC o2),I6 n])∧TakeP b 0 cl ss vK vW R w w'
theorem rIns_any (b:Nat) (cl ss:Int) (top vW vK:Value) (t:Tr) (ws:List Opn) (at' ch:Int) (w:World) (H:BookIs w b 0 cl ss top vW vK t ws) (hby:ByKey ws) (hcl:1≤cl∧cl≤1048575) (hT:Tellable t.list) :
  Cs 45 #[(pt b 0),I6 at',I3 ch] w fun e w'=>RInsP b cl ss vK vW t ws at' ch w e w':=by
 have h:=H.row;have hbl:=h.lt;have HVB:Hid (∀ x,vW.ownBlock=some x→x<w.heap.size):=fun x hx=>(qf H.own x hx).2;have c0:w.cell? (Ad b 0)=some (I3 0):=h.cell (j:=0) (by omega);have f0:=h.free 0;have a0:(w.alloc (.cells oZ 43)).cell? (Ad b 0)=some (I3 0):=(h.alloc _).cell (j:=0) (by omega);have g0:=(h.alloc (.cells oZ 43)).free 0;have hz:(w.setCell (Ad b 0) (I3 1)).heap.size=w.heap.size:=by simp [World.setCell]
 have b1:But (fun x=>x=b∨vW.ownBlock=some x) w ((w.setCell (Ad b 0) (I3 1)).alloc (.cells oZ 43)):=((But.set b 0 _).trans (But.below (kq _ _))).mono fun x e=>Or.inl e;have r1:RowIs ((w.setCell (Ad b 0) (I3 1)).alloc (.cells oZ 43)) w.heap.size 43 6 (opV o0):=RowIs.last (w:=w.setCell (Ad b 0) (I3 1)) (n:=6) (f:=opV o0) (cs:=oZ) hz.symm rfl;have B1:BookIs ((w.setCell (Ad b 0) (I3 1)).alloc (.cells oZ 43)) b 1 cl ss top vW vK t ws:=H.locked.below (kq _ _);have HI:=vm (bIns_any b 1 cl ss top vW vK t ws at' ch _ B1 hby hcl hT);have H1:Hid (But (fun x=>x=b∨vW.ownBlock=some x) w ((w.setCell (Ad b 0) (I3 1)).alloc (.cells oZ 43))∧RowIs ((w.setCell (Ad b 0) (I3 1)).alloc (.cells oZ 43)) w.heap.size 43 6 (opV o0)∧BookIs ((w.setCell (Ad b 0) (I3 1)).alloc (.cells oZ 43)) b 1 cl ss top vW vK t ws):=⟨b1,r1,B1⟩
 have HX:Hid (∀ x,w.heap.size≤x→¬ (x=b∨vW.ownBlock=some x)):=fun x hx e=>by
  rcases e with e|e
  ·omega
  ·have:=HVB.out x e;omega
 clear h H hby hT b1 r1 B1;go_enter_defers Tryz.func45,Tryz.ntmps45
 go_wp2_with (first
  | (go_at_call 49;refine (lock_free Qk (Ad b 0) _ a0 g0).mono ?_;rintro e w' ⟨rfl,rfl⟩)
  | (go_at_call 87;refine HI.out.mono ?_;rintro e w2 ⟨LL,hLL,o2,n2,rfl,hq⟩;obtain ⟨R,hR,tp,v2,B2,e2,k2⟩:=hq.book H1.out.2.2;have R2:RowIs w2 w.heap.size 43 6 (opV o0):=H1.out.2.1.but k2 (HX.out _ (qb _));have H2:Hid (TakeP b 1 cl ss vK vW R w w2):=⟨tp,v2,B2,e2,H1.out.1.trans k2⟩;have HR:=vm (qd hLL hR);clear hLL hq hR B2 e2 k2)
  | (refine wpList_store_row rfl 43 (.tmp 6) (.tmp 21) rfl w.heap.size (rowOf 6 (opV o2)) rfl rfl _ _ R2 (by rw [rowOf_size];exact vd) (by rw [rowOf_size,rowOf_size]) (vh _) ?_))
 have R3:=R2.setRow (opV o2);have H3:=H2.out.putRow R2 (qb _) hbl HVB.out (rowOf 6 (opV o2));obtain ⟨tp3,v3,B3,-,-⟩:=H3;refine leaves_cons (f:=50) (args:=#[(pt b 0)]) (by simp) (by simp [go_sem]) ?_;refine (unlock_deferred Qk (Ad b 0) .returning _ (B3.row.cell (j:=0) (by omega)) (B3.row.free 0)).mono ?_;rintro e u' w'' ⟨rfl,rfl,rfl⟩;have R4:=R3.setOther (a:=(Ad b 0)) (fun e=>by have:b=w.heap.size:=e;omega) (I3 0);exact ⟨_,ko Tryz.results45 _ _ w.heap.size 43 _ (0,0) _ _ rfl rfl R4 Tryz.underlying43 rfl (by rw [rowOf_size];exact vd),LL,HR.out.1,o2,n2,R,HR.out.2,rfl,(H2.out.putRow R2 (qb _) hbl HVB.out (rowOf 6 (opV o2))).free⟩
def RDelP (b:Nat) (cl ss:Int) (vK vW:Value) (t:Tr) (ws:List Opn) (at':Int) (w:World) (e:Ending) (w':World):Prop:=
 ∃ L,TextL t.list L∧∃ o2 n R,delM cl t ws L at'=(o2,n,R)∧e=.returned (.tuple #[.agg (oC o2),I6 n])∧TakeP b 0 cl ss vK vW R w w'
theorem rDel_any (b:Nat) (cl ss:Int) (top vW vK:Value) (t:Tr) (ws:List Opn) (at':Int) (w:World) (H:BookIs w b 0 cl ss top vW vK t ws) (hby:ByKey ws) (hcl:1≤cl∧cl≤1048575) (hT:Tellable t.list) :
  Cs 79 #[(pt b 0),I6 at'] w fun e w'=>RDelP b cl ss vK vW t ws at' w e w':=by
 have h:=H.row;have hbl:=h.lt;have HVB:Hid (∀ x,vW.ownBlock=some x→x<w.heap.size):=fun x hx=>(qf H.own x hx).2;have c0:w.cell? (Ad b 0)=some (I3 0):=h.cell (j:=0) (by omega);have f0:=h.free 0;have a0:(w.alloc (.cells oZ 43)).cell? (Ad b 0)=some (I3 0):=(h.alloc _).cell (j:=0) (by omega);have g0:=(h.alloc (.cells oZ 43)).free 0;have hz:(w.setCell (Ad b 0) (I3 1)).heap.size=w.heap.size:=by simp [World.setCell]
 have b1:But (fun x=>x=b∨vW.ownBlock=some x) w ((w.setCell (Ad b 0) (I3 1)).alloc (.cells oZ 43)):=((But.set b 0 _).trans (But.below (kq _ _))).mono fun x e=>Or.inl e;have r1:RowIs ((w.setCell (Ad b 0) (I3 1)).alloc (.cells oZ 43)) w.heap.size 43 6 (opV o0):=RowIs.last (w:=w.setCell (Ad b 0) (I3 1)) (n:=6) (f:=opV o0) (cs:=oZ) hz.symm rfl;have B1:BookIs ((w.setCell (Ad b 0) (I3 1)).alloc (.cells oZ 43)) b 1 cl ss top vW vK t ws:=H.locked.below (kq _ _);have HI:=vm (bDel_any b 1 cl ss top vW vK t ws at' _ B1 hby hcl hT);have H1:Hid (But (fun x=>x=b∨vW.ownBlock=some x) w ((w.setCell (Ad b 0) (I3 1)).alloc (.cells oZ 43))∧RowIs ((w.setCell (Ad b 0) (I3 1)).alloc (.cells oZ 43)) w.heap.size 43 6 (opV o0)∧BookIs ((w.setCell (Ad b 0) (I3 1)).alloc (.cells oZ 43)) b 1 cl ss top vW vK t ws):=⟨b1,r1,B1⟩
 have HX:Hid (∀ x,w.heap.size≤x→¬ (x=b∨vW.ownBlock=some x)):=fun x hx e=>by
  rcases e with e|e
  ·omega
  ·have:=HVB.out x e;omega
 clear h H hby hT b1 r1 B1;go_enter_defers Tryz.func79,Tryz.ntmps79
 go_wp2_with (first
  | (go_at_call 49;refine (lock_free Qk (Ad b 0) _ a0 g0).mono ?_;rintro e w' ⟨rfl,rfl⟩)
  | (go_at_call 135;refine HI.out.mono ?_;rintro e w2 ⟨LL,hLL,o2,n2,rfl,hq⟩;obtain ⟨R,hR,tp,v2,B2,e2,k2⟩:=hq.book H1.out.2.2;have R2:RowIs w2 w.heap.size 43 6 (opV o0):=H1.out.2.1.but k2 (HX.out _ (qb _));have H2:Hid (TakeP b 1 cl ss vK vW R w w2):=⟨tp,v2,B2,e2,H1.out.1.trans k2⟩;have HR:=vm (qd hLL hR);clear hLL hq hR B2 e2 k2)
  | (refine wpList_store_row rfl 43 (.tmp 4) (.tmp 18) rfl w.heap.size (rowOf 6 (opV o2)) rfl rfl _ _ R2 (by rw [rowOf_size];exact vd) (by rw [rowOf_size,rowOf_size]) (vh _) ?_))
 have R3:=R2.setRow (opV o2);have H3:=H2.out.putRow R2 (qb _) hbl HVB.out (rowOf 6 (opV o2));obtain ⟨tp3,v3,B3,-,-⟩:=H3;refine leaves_cons (f:=50) (args:=#[(pt b 0)]) (by simp) (by simp [go_sem]) ?_;refine (unlock_deferred Qk (Ad b 0) .returning _ (B3.row.cell (j:=0) (by omega)) (B3.row.free 0)).mono ?_;rintro e u' w'' ⟨rfl,rfl,rfl⟩;have R4:=R3.setOther (a:=(Ad b 0)) (fun e=>by have:b=w.heap.size:=e;omega) (I3 0);exact ⟨_,ko Tryz.results79 _ _ w.heap.size 43 _ (0,0) _ _ rfl rfl R4 Tryz.underlying43 rfl (by rw [rowOf_size];exact vd),LL,HR.out.1,o2,n2,R,HR.out.2,rfl,(H2.out.putRow R2 (qb _) hbl HVB.out (rowOf 6 (opV o2))).free⟩

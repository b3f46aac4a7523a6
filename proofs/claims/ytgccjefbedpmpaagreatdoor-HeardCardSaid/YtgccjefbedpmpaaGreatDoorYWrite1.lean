import Derived.Test.YtgccjefbedpmpaaGreatDoorYDel
namespace Go.Proofs.YtgccjefbedpmpaaGreatDoor
open Go.RowKit
set_option maxRecDepth 100000
set_option maxHeartbeats 8000000
variable {b g i : Nat} {cl k n ss : Int} {f : Nat→Value} {o o2 : Opn} {vK vW : Value} {w' : World} {ws : List Opn}
def lessKey (k:Int) (ws:List Opn):List Opn:=ws.filter fun o=>decide (o.key≠k)
theorem cmpE (x y:Int):cmpI x y=0↔x=y:=by unfold cmpI;split<;>(try split)<;>constructor<;>intro h<;>omega
theorem lessKey_no (hp:BsP (fun o=>cmpI o.key k) ws i) (hs:ByKey ws) (hf:bsF (fun o=>cmpI o.key k) ws i=false):lessKey k ws=ws:=by
 refine je.2 fun o ho=>?_;obtain ⟨j,hj,rfl⟩:=qw.1 ho;simp only [ne_eq,decide_eq_true_eq];intro e;have he:cmpI ws[j].key k=0:=(cmpE _ _).2 e;rcases kl j i with h|h|h
 ·have h9:cmpI ws[j].key k<0:=hp.ahead j hj h;omega
 ·subst h;unfold bsF at hf;rw [qk hj] at hf;simp [he] at hf
 ·have hi:i<ws.length:=by omega
  have h1:0≤cmpI ws[i].key k:=hp.behind i hi (qb _);have h2:=zl.1 hs i j hi hj h;have h3:¬ (ws[i].key<k):=fun q=>by have:=(cmpL ws[i].key k).2 q;omega
  omega
theorem lessKey_yes (hs:ByKey ws) (hf:bsF (fun o=>cmpI o.key k) ws i=true):i<ws.length∧lessKey k ws=ws.eraseIdx i:=by
 have hi:i<ws.length:=by
  rcases zr i ws.length with h|h
  ·exact h
  ·unfold bsF at hf;rw [zj h] at hf;cases hf
 have he:ws[i].key=k:=by
  unfold bsF at hf;rw [qk hi] at hf;exact (cmpE _ _).1 (by simpa using hf)
 refine ⟨hi,?_⟩;have e0:ws=ws.take i++ws[i]::ws.drop (i+1):=by rw [List.getElem_cons_drop,jh]
 rw [yy]
 conv=>lhs;rw [e0]
 unfold lessKey;rw [zt,List.filter_cons_of_neg (by simp [he])];congr 1
 ·refine je.2 fun o ho=>?_;obtain ⟨j,hj,rfl⟩:=qw.1 ho;rw [qm] at hj;rw [jq];have h2:=zl.1 hs j i (by omega) hi (by omega);simp only [ne_eq,decide_eq_true_eq];omega
 ·refine je.2 fun o ho=>?_;obtain ⟨j,hj,rfl⟩:=qw.1 ho;rw [qt] at hj;rw [yk];have h2:=zl.1 hs i (i+1+j) hi (by omega) (by omega);simp only [ne_eq,decide_eq_true_eq];omega
theorem lastC_ge (cl:Int):∀ (os:List Opn) (m:Int),m≤lastC cl os m
 | [],m=>Int.le_refl _
 | o::os,m=>by
  refine Int.le_trans ?_ (lastC_ge cl os _);split<;>omega
theorem lastS_ge:∀ (os:List Opn) (m:Int),m≤lastS os m
 | [],m=>Int.le_refl _
 | o::os,m=>Int.le_trans (by omega) (lastS_ge os _)
theorem TakeP.putRow {st:Int} {R:Tr×List Opn} {w:World} {n:Nat} (h:TakeP b st cl ss vK vW R w w') (hr:RowIs w' g 43 n f) (hg:w.heap.size≤g) (hb:b<w.heap.size) (hv:∀ x,vW.ownBlock=some x→x<w.heap.size) (cs:Array Value):TakeP b st cl ss vK vW R w (w'.setRow g cs):=by
 obtain ⟨top,v',B,e,k⟩:=h;have hgl:15≤g:=by have:=B.far;omega
 have hbt:But (fun x=>x=g) w' (w'.setRow g cs):=⟨by simp,rfl,rfl,rfl,fun i hi hx=>setRow_other _ _ _ _ (fun e=>hx e)⟩;refine ⟨top,v',⟨B.row.setRowOther (by omega) _,Qr hr (by decide) _ B.tree,kp B.own fun x hx=>setRow_other _ _ _ _ (fun e2=>by have:=hv x (e▸hx);omega),B.typ,B.wtyp,B.wlen,B.size,B.env.but hbt (fun x e=>e▸hgl) (by have:=B.row.lt;have:=B.far;omega),B.far,B.wfar⟩,e,k.putRow hg _⟩
def WrT (w wx:World) (b:Nat) (st cl ss:Int) (p0:Option Addr) (vW vK:Value) (t:Tr) (ws2:List Opn) (o:Opn):Prop:=∃ v1,BookIs wx b st cl ss (.pointer p0) v1 vK t ws2∧v1.ownBlock=vW.ownBlock∧But (fun x=>x=b∨vW.ownBlock=some x) w wx∧RowIs wx w.heap.size 43 6 (opV o)∧RowIs wx (w.heap.size+1) 43 6 (opV o0)
theorem write_ok (b:Nat) (st cl ss:Int) (top vW vK:Value) (t:Tr) (ws:List Opn) (o:Opn) (C S:Int) (w:World) (H:BookIs w b st cl ss top vW vK t ws) (hby:ByKey ws) (hcl:1≤cl∧cl≤1048575) (hC:lastC cl t.list 0=C) (hS:lastS t.list 0=S) (hf:¬ 120≤t.size) (hC1:C<1048575) (hS1:S<1073741823) :
  Cs 155 #[(pt b 2),.agg (oC o)] w fun e w'=>e=.returned (.tuple #[.agg #[I6 o.kd,U3 cl,U3 (C+1),U3 (S+1),U6 o.rf,I3 o.ch],I6 0])∧TakeP b st cl ss vK vW (takeL (lessKey (cl*1048576+(C+1)) ws).length (t.with ⟨o.kd,cl,C+1,S+1,o.rf,o.ch⟩ (rkOf (cl*1048576+(C+1)))) (lessKey (cl*1048576+(C+1)) ws)) w w':=by
 have hC0:0≤C:=hC▸lastC_ge cl _ 0;have hS0:0≤S:=hS▸lastS_ge _ 0;have HBk:=vm H;obtain ⟨p0,rfl⟩:=H.tree.ptr;obtain ⟨a0,c0,rfl⟩:=kt H.own;have hW0:=WrS.new w o H.row;have hbl:=H.row.lt;have HVB:Hid (∀ x,(Value.slice a0 ws.length c0).ownBlock=some x→x<w.heap.size):=fun x hx=>(qf H.own x hx).2;have HCS:=vm (qd hC hS)
 have HBY:=vm hby
 have HO:Hid (∀ W,Bel w W→Cs 100 #[.agg #[.pointer p0]] W fun e w'=>(∃ s,e=.returned s∧OwnO w' W.heap.size s t.list)∧Bel W w'):=fun W hW=>sOps_any t _ W (HBk.out.tree.below hW) (by rw [Tr.list_len];have:=HBk.out.size;omega)
 have HF:Hid (∀ W,Bel w W→Cs 97 #[(pt b 2)] W fun e w'=>e=.returned (.bool false)∧Bel W w'):=fun W hW=>by
  have:=isFull_any b st cl ss _ _ vK t W (HBk.out.below hW).row (HBk.out.below hW).tree (by have:=HBk.out.size;omega);rwa [decide_eq_false hf] at this
 have HS:Hid (∀ W,Cs 223 #[U3 C,U3 S] W fun e w'=>e=.returned (.bool false)∧w'=W):=fun W=>by
  have:=isSpent_any C S W;rwa [decide_eq_false (show ¬ 1048575≤C by omega),decide_eq_false (show ¬ 1073741823≤S by omega)] at this
 have HWt:Hid (∀ W,Bel w W→Cs 95 #[(pt b 2),U6 (cl*1048576+(C+1))] W fun e w'=>(∃ i,BsP (fun o=>cmpI o.key (cl*1048576+(C+1))) ws i∧e=.returned (.tuple #[I6 i,.bool (bsF (fun o=>cmpI o.key (cl*1048576+(C+1))) ws i)]))∧Bel W w'):=fun W hW=>Qv b st cl ss _ vK a0 c0 ws _ W (HBk.out.below hW).row (OwnO.is (HBk.out.below hW).own) (by have:=HBk.out.wlen;omega) HBY.out HBk.out.wtyp;have HK:Hid ((0≤cl∧cl<4294967296)∧(0≤C+1∧C+1<4294967296)):=⟨by omega,by omega⟩;have HSZ:Hid (t.size<100000):=by show t.size<100000;omega
 have hwl:ws.length<1000000:=H.wlen;generalize hky:cl*1048576+(C+1)=ky at *;have HKY:=vm hky;obtain ⟨ws2,hws2⟩:∃ ws2,ws2=lessKey ky ws:=⟨_,rfl⟩;rw [← hws2];have HW2:=vm hws2;generalize hR:takeL ws2.length (t.with ⟨o.kd,cl,C+1,S+1,o.rf,o.ch⟩ (rkOf ky)) ws2=R at *;have HR:=vm hR;have HW0:Hid (WrS w _ b st cl ss (.pointer p0) (.slice a0 ws.length c0) vK o):=hW0;clear H hW0 hC hS hf hby hky hws2 hR;go_enter Tryz.func155,Tryz.ntmps155;go_wp2_with fail;refine wp_region_held_drew (S:=fun W=>WrS w W b st cl ss (.pointer p0) (.slice a0 ws.length c0) vK o) (by kernel_rfl) (HW0.out.kept (qj _ _).drew) (fun hHeld=>?_);clear HW0;generalize World.drew _=wD at hHeld ⊢;refine ks 0 11 ?_;refine ks 1 12 ?_;refine ks 2 13 ?_;refine x9 3 14 (fun _ h=>WrS.c3 h) ?_;refine ks 5 16 ?_;refine ks 6 17 ?_;refine ks 7 18 ?_;refine x9 8 19 (fun _ h=>WrS.c2 h) ?_;refine rd 4 (some 15) rfl (fun K hK=>?_);go_simp;refine (HO.out _ hHeld.below).mono ?_;rintro e w2 ⟨⟨s2,rfl,ho2⟩,hb2⟩;obtain ⟨a2,n2,rfl⟩:=kt ho2;have HL:Hid (∀ W,Bel w2 W→Cs 222 #[.slice a2 t.list.length n2,U3 cl] W fun e w'=>e=.returned (.tuple #[U3 C,U3 S])∧Bel W w'):=fun W hW=>by rw [← HCS.out.1,← HCS.out.2];exact last_any cl t.list a2 n2 W (OwnO.is (xk ho2 hW)) (by rw [Tr.list_len];have:=HBk.out.size;omega)
 refine hK.out _ _ (hHeld.kept hb2) (fun hHeld=>?_);clear hK K hb2 ho2;refine rd 9 (some 20) rfl (fun K hK=>?_);go_simp;refine (HL.out _ (qj _ _)).mono ?_;rintro e w3 ⟨rfl,hb3⟩;refine hK.out _ _ (hHeld.kept hb3) (fun hHeld=>?_);clear hK K hb3 HL;refine ks 10 10 ?_;refine ks 11 21 ?_;refine ks 12 22 ?_;refine rdg 13 (some 6) ?_;refine rdg 14 (some 7) ?_;refine xy ?_;clear HO
 go_wp2_with (first
  | (go_at_call 97;refine (HF.out _ hHeld.below).mono ?_;rintro e w4 ⟨rfl,hb4⟩;have hH4:=hHeld.kept hb4;obtain ⟨q0,q1,q2,q3,q4,q5⟩:=vq hH4.box;have f1:=hH4.box.free 1;have f2:=hH4.box.free 2;have f3:=hH4.box.free 3;have cc2:=hH4.c2;have H4:Hid (WrS w w4 b st cl ss (.pointer p0) (.slice a0 ws.length c0) vK o):=hH4;clear hH4 hb4)
  | (go_at_call 223;refine (HS.out _).mono ?_;rintro e w5 ⟨rfl,hw5⟩;obtain rfl:=hw5.symm))
 have H5:Hid (WrS w (((w4.setCell (Ad w.heap.size 1) (U3 cl)).setCell (Ad w.heap.size 2) (U3 (C+1))).setCell (Ad w.heap.size 3) (U3 (S+1))) b st cl ss (.pointer p0) (.slice a0 ws.length c0) vK ⟨o.kd,cl,C+1,S+1,o.rf,o.ch⟩):=H4.out.put hbl cl (C+1) (S+1);clear H4 q0 q1 q2 q3 q4 q5 f1 f2 f3 cc2 hHeld HF HS;generalize ((w4.setCell (Ad w.heap.size 1) (U3 cl)).setCell (Ad w.heap.size 2) (U3 (C+1))).setCell (Ad w.heap.size 3) (U3 (S+1))=w6 at H5 ⊢;refine (kz _ _ _ _ _ _ HK.out.1 HK.out.2 _).mono ?_;rintro e w7 ⟨rfl,hb7⟩;have H7:Hid (WrS w w7 b st cl ss (.pointer p0) (.slice a0 ws.length c0) vK ⟨o.kd,cl,C+1,S+1,o.rf,o.ch⟩):=H5.out.kept hb7;clear H5 hb7;rw [HKY.out];go_upto_if 49 with (go_at_call 95;refine (HWt.out _ H7.out.below).mono ?_;rintro e w8 ⟨⟨i,hbp,rfl⟩,hb8⟩;have H8:Hid (WrS w w8 b st cl ss (.pointer p0) (.slice a0 ws.length c0) vK ⟨o.kd,cl,C+1,S+1,o.rf,o.ch⟩):=H7.out.kept hb8;have HP:=vm hbp;clear hbp hb8)
 have HKO:Hid (KeyT ⟨o.kd,cl,C+1,S+1,o.rf,o.ch⟩):=HK.out;clear H7 HWt HK;go_cut [9,49] (fun s9 s49 wx=>Hid (WrT w wx b st cl ss p0 (.slice a0 ws.length c0) vK t ws2 ⟨o.kd,cl,C+1,S+1,o.rf,o.ch⟩))
 case first=>
  cases hfnd:bsF (fun o=>cmpI o.key ky) ws i
  ·go_wp2_with fail;go_meet;have e2:ws2=ws:=HW2.out.trans (lessKey_no HP.out HBY.out hfnd);exact vm ⟨_,e2▸HBk.out.below H8.out.below,rfl,But.below H8.out.below,H8.out.box,H8.out.res⟩
  ·have HE:=vm (lessKey_yes HBY.out hfnd);have hil:=HE.out.1;have HB8:Hid (BookIs w8 b st cl ss (.pointer p0) (.slice a0 ws.length c0) vK t ws):=HBk.out.below H8.out.below;have hd:Cs 171 #[.slice a0 ws.length c0,I6 i,I6 ((i:Int)+1)] w8 fun e w'=>DelP w8 0 i (.slice a0 ws.length c0) ws e w':=del_any 0 i (i+1) _ ws w8 HB8.out.own hil rfl;have HDl:=vm hd;clear hd;have c4:w8.cell? (Ad b 4)=some (.slice a0 ws.length c0):=HB8.out.row.cell (j:=4) (by omega);go_wp2_with (go_at_call 171;refine HDl.out.mono ?_;rintro e w9 ⟨v9,rfl,ho9,hv9,hb9⟩;have R9:RowIs w9 b 118 7 (rep7 st cl (.pointer p0) (.slice a0 ws.length c0) ss vK):=HB8.out.row.but hb9 (fun e=>HB8.out.apart e rfl);have c9:w9.cell? (Ad b 4)=some (.slice a0 ws.length c0):=R9.cell (j:=4) (by omega);have f9:w9.frozen? (Ad b 4)=false:=R9.free 4;obtain ⟨a9,d9,rfl⟩:=kt ho9;have H9:=vm (qd ho9 (qd hv9 hb9));clear ho9 hv9 hb9 R9);go_meet;have e2:ws2=ws.eraseIdx i:=HW2.out.trans HE.out.2;have hbt:But (fun x=>x=b∨(Value.slice a0 ws.length c0).ownBlock=some x) w8 (w9.setCell (Ad b 4) (.slice a9 (ws.eraseIdx i).length d9)):=(H9.out.2.2.mono fun x e=>Or.inr e).trans ((But.set b 4 _).mono fun x e=>Or.inl e)
   have hX:∀ x,w.heap.size≤x→¬ (x=b∨(Value.slice a0 ws.length c0).ownBlock=some x):=fun x hx e=>by
    rcases e with e|e
    ·omega
    ·have:=HVB.out x e;omega
   exact vm ⟨_,e2▸HB8.out.gone H9.out.1 H9.out.2.1 H9.out.2.2,H9.out.2.1,(But.below H8.out.below).trans hbt,H8.out.box.but hbt (hX _ (qb _)),H8.out.res.but hbt (hX _ (zc _))⟩
 case rest=>
  obtain ⟨v1,hB1,hv1,hb1,hx1,hr1⟩:=hcut.out;clear H8 HP hcut HBk HBY HW2;have hT:=take_any b st cl ss _ v1 vK t ws2 ⟨o.kd,cl,C+1,S+1,o.rf,o.ch⟩ wc hB1 HKO.out HSZ.out;rw [show Opn.key ⟨o.kd,cl,C+1,S+1,o.rf,o.ch⟩=ky from HKY.out,HR.out] at hT;have HT:=vm hT;obtain ⟨q0,q1,q2,q3,q4,q5⟩:=vq hx1;have H1:=vm (qd hv1 (qd hb1 (qd hx1 hr1)));clear hT hB1 hv1 hb1 hx1 hr1
  have HX:Hid (∀ x,w.heap.size≤x→¬ (x=b∨v1.ownBlock=some x)):=fun x hx e=>by
   rcases e with e|e
   ·omega
   ·have:=HVB.out x (H1.out.1▸e);omega
  go_wp2_with (first
   | (go_at_call 98;refine HT.out.mono ?_;rintro e w9 ⟨rfl,tp9,v9,B9,e9,k9⟩;have R9:RowIs w9 w.heap.size 43 6 (opV ⟨o.kd,cl,C+1,S+1,o.rf,o.ch⟩):=H1.out.2.2.1.but k9 (HX.out _ (qb _));have R10:RowIs w9 (w.heap.size+1) 43 6 (opV o0):=H1.out.2.2.2.but k9 (HX.out _ (zc _));obtain ⟨z0,z1,z2,z3,z4,z5⟩:=vq R9;have H9:Hid (TakeP b st cl ss vK (.slice a0 ws.length c0) R w w9):=⟨tp9,v9,B9,e9.trans H1.out.1,H1.out.2.1.trans (k9.mono fun x e=>e.via id fun e=>H1.out.1▸e)⟩;clear B9 e9 k9 q0 q1 q2 q3 q4 q5)
   | (refine wpList_store_row rfl 43 (.tmp 4) (.tmp 64) rfl (w.heap.size+1) (rowOf 6 (opV ⟨o.kd,cl,C+1,S+1,o.rf,o.ch⟩)) rfl rfl _ _ R10 (by rw [rowOf_size];exact vd) (by rw [rowOf_size,rowOf_size]) (vh _) ?_))
  exact bodyPost_ret (ko Tryz.results155 _ _ (w.heap.size+1) 43 _ (0,0) _ _ rfl rfl (R10.setRow (opV ⟨o.kd,cl,C+1,S+1,o.rf,o.ch⟩)) Tryz.underlying43 rfl (by rw [rowOf_size];exact vd)) rfl ⟨rfl,H9.out.putRow R10 (zc _) hbl HVB.out _⟩
theorem write_full (b:Nat) (st cl ss:Int) (top vW vK:Value) (t:Tr) (ws:List Opn) (o:Opn) (C S:Int) (fu sp:Bool) (w:World) (H:BookIs w b st cl ss top vW vK t ws) (hC:lastC cl t.list 0=C) (hS:lastS t.list 0=S) (hfu:decide (120≤t.size)=fu) (hsp:(decide (1048575≤C)||decide (1073741823≤S))=sp) (hor:(fu||sp)=true) :
  Cs 155 #[(pt b 2),.agg (oC o)] w fun e w'=>e=.returned (.tuple #[.agg oZ,I6 7])∧Bel w w':=by
 have HBk:=vm H;obtain ⟨p0,rfl⟩:=H.tree.ptr;obtain ⟨a0,c0,rfl⟩:=kt H.own;have hW0:=WrS.new w o H.row;have hbl:=H.row.lt;have HCS:=vm (qd hC hS);have HO:Hid (∀ W,Bel w W→Cs 100 #[.agg #[.pointer p0]] W fun e w'=>(∃ s,e=.returned s∧OwnO w' W.heap.size s t.list)∧Bel W w'):=fun W hW=>sOps_any t _ W (HBk.out.tree.below hW) (by rw [Tr.list_len];have:=HBk.out.size;omega)
 have HF:Hid (∀ W,Bel w W→Cs 97 #[(pt b 2)] W fun e w'=>e=.returned (.bool fu)∧Bel W w'):=fun W hW=>by
  have:=isFull_any b st cl ss _ _ vK t W (HBk.out.below hW).row (HBk.out.below hW).tree (by have:=HBk.out.size;omega);rwa [hfu] at this
 have HS:Hid (∀ W,Cs 223 #[U3 C,U3 S] W fun e w'=>e=.returned (.bool sp)∧w'=W):=fun W=>by
  have:=isSpent_any C S W;rwa [hsp] at this
 have HW0:Hid (WrS w _ b st cl ss (.pointer p0) (.slice a0 ws.length c0) vK o):=hW0;clear H hW0 hC hS hfu hsp;go_enter Tryz.func155,Tryz.ntmps155;go_wp2_with fail;refine wp_region_held_drew (S:=fun W=>WrS w W b st cl ss (.pointer p0) (.slice a0 ws.length c0) vK o) (by kernel_rfl) (HW0.out.kept (qj _ _).drew) (fun hHeld=>?_);clear HW0;generalize World.drew _=wD at hHeld ⊢;refine ks 0 11 ?_;refine ks 1 12 ?_;refine ks 2 13 ?_;refine x9 3 14 (fun _ h=>WrS.c3 h) ?_;refine ks 5 16 ?_;refine ks 6 17 ?_;refine ks 7 18 ?_;refine x9 8 19 (fun _ h=>WrS.c2 h) ?_;refine rd 4 (some 15) rfl (fun K hK=>?_);go_simp;refine (HO.out _ hHeld.below).mono ?_;rintro e w2 ⟨⟨s2,rfl,ho2⟩,hb2⟩;obtain ⟨a2,n2,rfl⟩:=kt ho2;have HL:Hid (∀ W,Bel w2 W→Cs 222 #[.slice a2 t.list.length n2,U3 cl] W fun e w'=>e=.returned (.tuple #[U3 C,U3 S])∧Bel W w'):=fun W hW=>by rw [← HCS.out.1,← HCS.out.2];exact last_any cl t.list a2 n2 W (OwnO.is (xk ho2 hW)) (by rw [Tr.list_len];have:=HBk.out.size;omega)
 refine hK.out _ _ (hHeld.kept hb2) (fun hHeld=>?_);clear hK K hb2 ho2;refine rd 9 (some 20) rfl (fun K hK=>?_);go_simp;refine (HL.out _ (qj _ _)).mono ?_;rintro e w3 ⟨rfl,hb3⟩;refine hK.out _ _ (hHeld.kept hb3) (fun hHeld=>?_);clear hK K hb3 HL;refine ks 10 10 ?_;refine ks 11 21 ?_;refine ks 12 22 ?_;refine rdg 13 (some 6) ?_;refine rdg 14 (some 7) ?_;refine xy ?_;clear HO;cases fu
 ·have hsp:sp=true:=by simpa using hor
  subst hsp;clear hor
  go_wp2_with (first
   | (go_at_call 97;refine (HF.out _ hHeld.below).mono ?_;rintro e w4 ⟨rfl,hb4⟩;have hH4:=hHeld.kept hb4;have R10:=hH4.res;have H4:Hid (WrS w w4 b st cl ss (.pointer p0) (.slice a0 ws.length c0) vK o):=hH4;clear hH4 hb4)
   | (go_at_call 223;refine (HS.out _).mono ?_;rintro e w5 ⟨rfl,hw5⟩;obtain rfl:=hw5.symm)
   | ((refine wpList_store_row rfl 43 (.tmp 4) (.tmp 30) rfl (w.heap.size+1) (rowOf 6 (opV o0)) rfl rfl _ _ R10 (by rw [rowOf_size];exact vd) rfl (vh _) ?_)))
  (try simp only [Exit.inBlock,Exit.then])
  exact bodyPost_ret (ko Tryz.results155 _ _ (w.heap.size+1) 43 _ (0,0) _ _ rfl rfl (R10.setRow (opV o0)) Tryz.underlying43 rfl (by rw [rowOf_size];exact vd)) rfl ⟨rfl,kn H4.out.below (zc _) _⟩
 ·clear hor
  go_wp2_with (first
   | (go_at_call 97;refine (HF.out _ hHeld.below).mono ?_;rintro e w4 ⟨rfl,hb4⟩;have hH4:=hHeld.kept hb4;have R10:=hH4.res;have H4:Hid (WrS w w4 b st cl ss (.pointer p0) (.slice a0 ws.length c0) vK o):=hH4;clear hH4 hb4)
   | ((refine wpList_store_row rfl 43 (.tmp 4) (.tmp 30) rfl (w.heap.size+1) (rowOf 6 (opV o0)) rfl rfl _ _ R10 (by rw [rowOf_size];exact vd) rfl (vh _) ?_)))
  (try simp only [Exit.inBlock,Exit.then])
  exact bodyPost_ret (ko Tryz.results155 _ _ (w.heap.size+1) 43 _ (0,0) _ _ rfl rfl (R10.setRow (opV o0)) Tryz.underlying43 rfl (by rw [rowOf_size];exact vd)) rfl ⟨rfl,kn H4.out.below (zc _) _⟩
def noRoom (cl:Int) (t:Tr):Bool:=decide (120≤t.size)||(decide (1048575≤lastC cl t.list 0)||decide (1073741823≤lastS t.list 0))
def ownOf (cl:Int) (t:Tr) (o:Opn):Opn:=⟨o.kd,cl,lastC cl t.list 0+1,lastS t.list 0+1,o.rf,o.ch⟩
def WriteQ (b:Nat) (st cl ss:Int) (vK vW:Value) (t:Tr) (ws:List Opn) (o o2:Opn) (n:Int) (w w':World):Prop:=
 (noRoom cl t=true∧o2=o0∧n=7∧Bel w w') ∨
 (noRoom cl t=false∧o2=ownOf cl t o∧n=0∧TakeP b st cl ss vK vW (takeL (lessKey (ownOf cl t o).key ws).length (t.with (ownOf cl t o) (rkOf (ownOf cl t o).key)) (lessKey (ownOf cl t o).key ws)) w w')
def WriteP (b:Nat) (st cl ss:Int) (vK vW:Value) (t:Tr) (ws:List Opn) (o:Opn) (w:World) (e:Ending) (w':World):Prop:=
 ∃ o2 n,e=.returned (.tuple #[.agg (oC o2),I6 n])∧WriteQ b st cl ss vK vW t ws o o2 n w w'
theorem write_any (b:Nat) (st cl ss:Int) (top vW vK:Value) (t:Tr) (ws:List Opn) (o:Opn) (w:World) (H:BookIs w b st cl ss top vW vK t ws) (hby:ByKey ws) (hcl:1≤cl∧cl≤1048575) :
  Cs 155 #[(pt b 2),.agg (oC o)] w fun e w'=>WriteP b st cl ss vK vW t ws o w e w':=by
 cases hr:noRoom cl t with
 | true=>
  refine (write_full b st cl ss top vW vK t ws o _ _ _ _ w H rfl rfl rfl rfl hr).mono ?_;rintro e w' ⟨rfl,hb⟩;exact ⟨o0,7,rfl,Or.inl ⟨hr,rfl,rfl,hb⟩⟩
 | false=>
  have h3:¬ 120≤t.size∧lastC cl t.list 0<1048575∧lastS t.list 0<1073741823:=by
   unfold noRoom at hr;simp only [jf,decide_eq_false_iff_not] at hr;omega
  refine (write_ok b st cl ss top vW vK t ws o _ _ w H hby hcl rfl rfl h3.1 h3.2.1 h3.2.2).mono ?_;rintro e w' ⟨rfl,hT⟩;exact ⟨ownOf cl t o,0,rfl,Or.inr ⟨hr,rfl,rfl,hT⟩⟩
theorem WriteQ.putRow {st:Int} {t:Tr} {w:World} {k:Nat} (h:WriteQ b st cl ss vK vW t ws o o2 n w w') (hr:RowIs w' g 43 k f) (hg:w.heap.size≤g) (hb:b<w.heap.size) (hv:∀ x,vW.ownBlock=some x→x<w.heap.size) (cs:Array Value):WriteQ b st cl ss vK vW t ws o o2 n w (w'.setRow g cs):=
 h.via (fun ⟨a,c,d,e⟩=>⟨a,c,d,kn e hg _⟩) (fun ⟨a,c,d,e⟩=>⟨a,c,d,e.putRow hr hg hb hv _⟩)
theorem WriteQ.from {st:Int} {t:Tr} {w0 w:World} (h:WriteQ b st cl ss vK vW t ws o o2 n w w') (hb:Bel w0 w):WriteQ b st cl ss vK vW t ws o o2 n w0 w':=
 h.via (fun ⟨a,c,d,e⟩=>⟨a,c,d,hb.trans (e.mono hb.size)⟩) (fun ⟨a,c,d,top,v',B,e,k⟩=>⟨a,c,d,top,v',B,e,(But.below hb).trans k⟩)

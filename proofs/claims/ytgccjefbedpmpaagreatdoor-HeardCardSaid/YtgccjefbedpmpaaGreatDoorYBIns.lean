import Derived.Test.YtgccjefbedpmpaaGreatDoorYWrite1
import Derived.Test.YtgccjefbedpmpaaGreatDoorYSortU12
namespace Go.Proofs.YtgccjefbedpmpaaGreatDoor
open Go.RowKit
set_option maxRecDepth 100000
set_option maxHeartbeats 8000000
variable {os : List Opn}
def TextL (os L:List Opn):Prop:=∃ xs,xs.Perm (insOf os)∧xs.Pairwise (fun x y=>¬ ahd y x)∧L=tellL 1073741824 xs (goneOf os) 0
def refAt (L:List Opn) (at':Int):Int:=if 0<at' then (getO L[(at'-1).toNat]?).key else 0
theorem TextL_mem {L:List Opn} (h:TextL os L):∀ o∈L,o∈os:=fun o ho=>by
 obtain ⟨xs,hp,_,rfl⟩:=h;exact (qo.1 (hp.mem_iff.1 (tellL_mem _ _ _ _ o ho))).1
theorem ownO_len {w:World} {B:Nat} {v:Value} (h:OwnO w B v os):os.length≤9223372036854775807:=by
 rcases h.2 with ⟨_,h0⟩|⟨g,cap,cur,e,_,_,h1,h2,_⟩
 ·omega
 ·unfold maxLen at h2;omega
def BInsQ (b:Nat) (st cl ss:Int) (vK vW:Value) (t:Tr) (ws L:List Opn) (at' ch:Int) (o2:Opn) (n:Int) (w w':World):Prop:=
 ((at'<0∨(L.length:Int)<at')∧o2=o0∧n=2∧Bel w w') ∨
 (0≤at'∧at'≤L.length∧okChar ch=false∧o2=o0∧n=3∧Bel w w') ∨
 (0≤at'∧at'≤L.length∧okChar ch=true∧WriteQ b st cl ss vK vW t ws ⟨1,0,0,0,refAt L at',ch⟩ o2 n w w')
def BInsP (b:Nat) (st cl ss:Int) (vK vW:Value) (t:Tr) (ws:List Opn) (at' ch:Int) (w:World) (e:Ending) (w':World):Prop:=
 ∃ L,TextL t.list L∧∃ o2 n,e=.returned (.tuple #[.agg (oC o2),I6 n])∧BInsQ b st cl ss vK vW t ws L at' ch o2 n w w'
theorem bIns_any (b:Nat) (st cl ss:Int) (top vW vK:Value) (t:Tr) (ws:List Opn) (at' ch:Int) (w:World) (H:BookIs w b st cl ss top vW vK t ws) (hby:ByKey ws) (hcl:1≤cl∧cl≤1048575) (hT:Tellable t.list) :
  Cs 87 #[(pt b 2),I6 at',I3 ch] w fun e w'=>BInsP b st cl ss vK vW t ws at' ch w e w':=by
 obtain ⟨p0,rfl⟩:=H.tree.ptr;have hbl:=H.row.lt;have HVB:Hid (∀ x,vW.ownBlock=some x→x<w.heap.size):=fun x hx=>(qf H.own x hx).2;have HO:Hid (∀ W,Bel w W→Cs 100 #[.agg #[.pointer p0]] W fun e w'=>(∃ s,e=.returned s∧OwnO w' W.heap.size s t.list)∧Bel W w'):=fun W hW=>sOps_any t _ W (H.tree.below hW) (by rw [Tr.list_len];have:=H.size;omega)
 have HTd:Hid (∀ a c W,OpsIs W a t.list→Cs 153 #[.slice a t.list.length c] W fun e w'=>ToldP W t.list e w'∧Bel W w'):=fun a c W hO=>told_any a c t.list W hO hT (sortU_any _ (by
  have h1:=hT.len;have h2:(goneOf t.list).length≤t.list.length:=by unfold goneOf;simp only [ze];exact zz _ _
  omega))
 have HW:Hid (∀ W,Bel w W→∀ rf,Cs 155 #[(pt b 2),.agg #[I6 1,U3 0,U3 0,U3 0,U6 rf,I3 ch]] W fun e w'=>WriteP b st cl ss vK vW t ws ⟨1,0,0,0,rf,ch⟩ W e w'):=fun W hW rf=>write_any b st cl ss _ vW vK t ws ⟨1,0,0,0,rf,ch⟩ W (H.below hW) hby hcl;have HC:Hid (∀ W,Cs 154 #[I3 ch] W fun e w'=>e=.returned (.bool (okChar ch))∧w'=W):=fun W=>pIsChar_any ch W
 have HQR:Hid (∀ o o2 n w4,∀ {W:World},Bel w W→RowIs W w.heap.size 43 6 (opV o0)→WriteQ b st cl ss vK vW t ws o o2 n W w4→RowIs w4 w.heap.size 43 6 (opV o0)):=fun o o2 n w4 W hW hr hq=>by
  rcases hq with ⟨_,_,_,k⟩|⟨_,_,_,_,_,_,_,k⟩
  ·exact hr.below k hr.lt
  ·exact hr.but k (fun e=>by
    rcases e with e|e
    ·omega
    ·have:=HVB.out _ e;omega)
 have h0:Bel w (w.alloc (.cells oZ 43)):=kq _ _;have c3:(w.alloc (.cells oZ 43)).cell? (Ad b 3)=some (.pointer p0):=(H.row.alloc _).cell (j:=3) (by omega);have r0:RowIs (w.alloc (.cells oZ 43)) w.heap.size 43 6 (opV o0):=RowIs.last rfl rfl;have H0:Hid (Bel w (w.alloc (.cells oZ 43))∧RowIs (w.alloc (.cells oZ 43)) w.heap.size 43 6 (opV o0)):=⟨h0,r0⟩;have HKT:Hid (∀ o∈t.list,KeyT o):=hT.cc;clear H hby hT h0 r0;go_enter Tryz.func87,Tryz.ntmps87
 go_upto_region 2 with (first
  | (go_at_call 100;refine (HO.out _ H0.out.1).mono ?_;rintro e w1 ⟨⟨s,rfl,ho⟩,hb1⟩;obtain ⟨a1,c1,rfl⟩:=kt ho;have HO1:=vm (OwnO.is ho);clear ho)
  | (go_at_call 153;refine (HTd.out a1 c1 _ HO1.out).mono ?_;rintro e w2 ⟨⟨v2,xs,rfl,hp,hs,ho2⟩,hb2⟩;obtain ⟨L,hL⟩:∃ L,L=tellL 1073741824 xs (goneOf t.list) 0:=⟨_,rfl⟩;rw [← hL] at ho2;have HL:Hid (TextL t.list L):=⟨xs,hp,hs,hL⟩;have HLX:=vm (qd hp hL);obtain ⟨a2,c2,rfl⟩:=kt ho2;have hLm:=ownO_len ho2;have HO2:=vm (OwnO.is ho2);have hb12:=hb1.trans (hb2.mono hb1.size);have H2:=vm (qd (H0.out.1.trans (hb12.mono H0.out.1.size)) (qd (H0.out.2.below hb12 H0.out.2.lt) trivial));have RR:=H2.out.2.1;clear hb1 hb2 hb12 hp hs hL ho2))
 by_cases h1:at'<0
 ·go_wp2_with (refine wpList_store_row rfl 43 (.tmp 6) (.tmp 24) rfl w.heap.size (rowOf 6 (opV o0)) rfl rfl _ _ RR (by rw [rowOf_size];exact vd) rfl (vh _) ?_)
  (try simp only [Exit.inBlock,Exit.then])
  exact bodyPost_ret (ko Tryz.results87 _ _ w.heap.size 43 _ (0,0) _ _ rfl rfl (RowIs.setRow RR (opV o0)) Tryz.underlying43 rfl (by rw [rowOf_size];exact vd)) rfl ⟨L,HL.out,o0,2,rfl,Or.inl ⟨Or.inl h1,rfl,rfl,kn H2.out.1 (qb _) _⟩⟩
 ·by_cases h2:(L.length:Int)<at'
  ·go_wp2_with (refine wpList_store_row rfl 43 (.tmp 6) (.tmp 24) rfl w.heap.size (rowOf 6 (opV o0)) rfl rfl _ _ RR (by rw [rowOf_size];exact vd) rfl (vh _) ?_)
   (try simp only [Exit.inBlock,Exit.then])
   exact bodyPost_ret (ko Tryz.results87 _ _ w.heap.size 43 _ (0,0) _ _ rfl rfl (RowIs.setRow RR (opV o0)) Tryz.underlying43 rfl (by rw [rowOf_size];exact vd)) rfl ⟨L,HL.out,o0,2,rfl,Or.inl ⟨Or.inr h2,rfl,rfl,kn H2.out.1 (qb _) _⟩⟩
  ·cases hch:okChar ch
   ·rw [hch] at HC
    go_wp2_with (first
     | (go_at_call 154;refine (HC.out _).mono ?_;rintro e w3 ⟨rfl,rfl⟩)
     | (refine wpList_store_row rfl 43 (.tmp 6) (.tmp 28) rfl w.heap.size (rowOf 6 (opV o0)) rfl rfl _ _ RR (by rw [rowOf_size];exact vd) rfl (vh _) ?_))
    (try simp only [Exit.inBlock,Exit.then])
    exact bodyPost_ret (ko Tryz.results87 _ _ w.heap.size 43 _ (0,0) _ _ rfl rfl (RowIs.setRow RR (opV o0)) Tryz.underlying43 rfl (by rw [rowOf_size];exact vd)) rfl ⟨L,HL.out,o0,3,rfl,Or.inr (Or.inl ⟨by omega,by omega,hch,rfl,rfl,kn H2.out.1 (qb _) _⟩)⟩
   ·rw [hch] at HC;by_cases h3:0<at'
    ·obtain ⟨k,rfl⟩:∃ k:Nat,at'=(k:Int)+1:=⟨(at'-1).toNat,by omega⟩;have hkL:k<L.length:=by omega
     obtain ⟨o1,ho1⟩:∃ o1,L[k]?=some o1:=⟨_,qk hkL⟩;have HK1:Hid (KeyT o1):=HKT.out o1 (TextL_mem HL.out o1 (List.mem_of_getElem? ho1))
     obtain ⟨g,off,rfl,hat⟩:∃ g off,a2=some (Ad g off)∧OpsAt w2 g off L:=by
      rcases HO2.out with e|e
      ·rw [e] at hkL;cases hkL
      ·exact e
     have e1:L[k]=o1:=by rw [qk hkL] at ho1;exact qq ho1
     have kk:=fun j hj=>hat k hkL j hj;simp only [e1] at kk;have q0:w2.cell? ⟨g,off+k*6,none⟩=some (I6 o1.kd):=kk 0 (by omega);have q1:w2.cell? ⟨g,off+k*6+1,none⟩=some (U3 o1.cl):=kk 1 (by omega);have q2:w2.cell? ⟨g,off+k*6+2,none⟩=some (U3 o1.ck):=kk 2 (by omega);have q3:w2.cell? ⟨g,off+k*6+3,none⟩=some (U3 o1.st):=kk 3 (by omega);have q4:w2.cell? ⟨g,off+k*6+4,none⟩=some (U6 o1.rf):=kk 4 (by omega);have q5:w2.cell? ⟨g,off+k*6+5,none⟩=some (I3 o1.ch):=kk 5 (by omega)
     have HE1:Hid (refAt L ((k:Int)+1)=o1.cl*1048576+o1.ck):=by
      show refAt L ((k:Int)+1)=o1.cl*1048576+o1.ck;unfold refAt;rw [if_pos h3,show ((k:Int)+1-1).toNat=k by omega,ho1];rfl
     clear kk e1 ho1 hat
     go_wp2_with (first
      | (go_at_call 154;refine (HC.out _).mono ?_;rintro e w3 ⟨rfl,rfl⟩)
      | (go_at_call 93;refine (kz _ _ _ _ _ _ HK1.out.1 HK1.out.2 _).mono ?_;rintro e w5 ⟨rfl,hb5⟩;have H5:=vm (qd (H2.out.1.trans (hb5.mono H2.out.1.size)) (H2.out.2.1.below hb5 H2.out.2.1.lt));clear hb5)
      | (go_at_call 155;refine (HW.out _ H5.out.1 _).mono ?_;rintro e w4 ⟨o2,n2,rfl,hq4⟩;have R4:RowIs w4 w.heap.size 43 6 (opV o0):=HQR.out _ _ _ _ H5.out.1 H5.out.2 hq4;have H4:=vm (hq4.from H5.out.1);clear hq4)
      | (refine wpList_store_row rfl 43 (.tmp 6) (.tmp 42) rfl w.heap.size (rowOf 6 (opV o2)) rfl rfl _ _ R4 (by rw [rowOf_size];exact vd) (by rw [rowOf_size,rowOf_size]) (vh _) ?_))
     exact bodyPost_ret (ko Tryz.results87 _ _ w.heap.size 43 _ (0,0) _ _ rfl rfl (RowIs.setRow R4 (opV o2)) Tryz.underlying43 rfl (by rw [rowOf_size];exact vd)) rfl ⟨L,HL.out,o2,n2,rfl,Or.inr (Or.inr ⟨by omega,by omega,hch,by rw [HE1.out];exact H4.out.putRow R4 (qb _) hbl HVB.out _⟩)⟩
    ·obtain rfl:at'=0:=by omega
     go_wp2_with (first
      | (go_at_call 154;refine (HC.out _).mono ?_;rintro e w3 ⟨rfl,rfl⟩)
      | (go_at_call 155;refine (HW.out _ H2.out.1 _).mono ?_;rintro e w4 ⟨o2,n2,rfl,hq4⟩;have R4:RowIs w4 w.heap.size 43 6 (opV o0):=HQR.out _ _ _ _ H2.out.1 H2.out.2.1 hq4;have H4:=vm (hq4.from H2.out.1);clear hq4)
      | (refine wpList_store_row rfl 43 (.tmp 6) (.tmp 42) rfl w.heap.size (rowOf 6 (opV o2)) rfl rfl _ _ R4 (by rw [rowOf_size];exact vd) (by rw [rowOf_size,rowOf_size]) (vh _) ?_))
     exact bodyPost_ret (ko Tryz.results87 _ _ w.heap.size 43 _ (0,0) _ _ rfl rfl (RowIs.setRow R4 (opV o2)) Tryz.underlying43 rfl (by rw [rowOf_size];exact vd)) rfl ⟨L,HL.out,o2,n2,rfl,Or.inr (Or.inr ⟨by omega,by omega,hch,H4.out.putRow R4 (qb _) hbl HVB.out _⟩)⟩
def BDelQ (b:Nat) (st cl ss:Int) (vK vW:Value) (t:Tr) (ws L:List Opn) (at':Int) (o2:Opn) (n:Int) (w w':World):Prop:=
 ((at'<0∨(L.length:Int)≤at')∧o2=o0∧n=2∧Bel w w') ∨
 (0≤at'∧at'<L.length∧WriteQ b st cl ss vK vW t ws ⟨2,0,0,0,(getO L[at'.toNat]?).key,0⟩ o2 n w w')
def BDelP (b:Nat) (st cl ss:Int) (vK vW:Value) (t:Tr) (ws:List Opn) (at':Int) (w:World) (e:Ending) (w':World):Prop:=
 ∃ L,TextL t.list L∧∃ o2 n,e=.returned (.tuple #[.agg (oC o2),I6 n])∧BDelQ b st cl ss vK vW t ws L at' o2 n w w'
theorem bDel_any (b:Nat) (st cl ss:Int) (top vW vK:Value) (t:Tr) (ws:List Opn) (at':Int) (w:World) (H:BookIs w b st cl ss top vW vK t ws) (hby:ByKey ws) (hcl:1≤cl∧cl≤1048575) (hT:Tellable t.list) :
  Cs 135 #[(pt b 2),I6 at'] w fun e w'=>BDelP b st cl ss vK vW t ws at' w e w':=by
 obtain ⟨p0,rfl⟩:=H.tree.ptr;have hbl:=H.row.lt;have HVB:Hid (∀ x,vW.ownBlock=some x→x<w.heap.size):=fun x hx=>(qf H.own x hx).2;have HO:Hid (∀ W,Bel w W→Cs 100 #[.agg #[.pointer p0]] W fun e w'=>(∃ s,e=.returned s∧OwnO w' W.heap.size s t.list)∧Bel W w'):=fun W hW=>sOps_any t _ W (H.tree.below hW) (by rw [Tr.list_len];have:=H.size;omega)
 have HTd:Hid (∀ a c W,OpsIs W a t.list→Cs 153 #[.slice a t.list.length c] W fun e w'=>ToldP W t.list e w'∧Bel W w'):=fun a c W hO=>told_any a c t.list W hO hT (sortU_any _ (by
  have h1:=hT.len;have h2:(goneOf t.list).length≤t.list.length:=by unfold goneOf;simp only [ze];exact zz _ _
  omega))
 have HW:Hid (∀ W,Bel w W→∀ rf,Cs 155 #[(pt b 2),.agg #[I6 2,U3 0,U3 0,U3 0,U6 rf,I3 0]] W fun e w'=>WriteP b st cl ss vK vW t ws ⟨2,0,0,0,rf,0⟩ W e w'):=fun W hW rf=>write_any b st cl ss _ vW vK t ws ⟨2,0,0,0,rf,0⟩ W (H.below hW) hby hcl
 have HQR:Hid (∀ o o2 n w4,∀ {W:World},Bel w W→RowIs W w.heap.size 43 6 (opV o0)→WriteQ b st cl ss vK vW t ws o o2 n W w4→RowIs w4 w.heap.size 43 6 (opV o0)):=fun o o2 n w4 W hW hr hq=>by
  rcases hq with ⟨_,_,_,k⟩|⟨_,_,_,_,_,_,_,k⟩
  ·exact hr.below k hr.lt
  ·exact hr.but k (fun e=>by
    rcases e with e|e
    ·omega
    ·have:=HVB.out _ e;omega)
 have h0:Bel w (w.alloc (.cells oZ 43)):=kq _ _;have c3:(w.alloc (.cells oZ 43)).cell? (Ad b 3)=some (.pointer p0):=(H.row.alloc _).cell (j:=3) (by omega);have r0:RowIs (w.alloc (.cells oZ 43)) w.heap.size 43 6 (opV o0):=RowIs.last rfl rfl;have H0:Hid (Bel w (w.alloc (.cells oZ 43))∧RowIs (w.alloc (.cells oZ 43)) w.heap.size 43 6 (opV o0)):=⟨h0,r0⟩;have HKT:Hid (∀ o∈t.list,KeyT o):=hT.cc;clear H hby hT h0 r0;go_enter Tryz.func135,Tryz.ntmps135
 go_upto_region 2 with (first
  | (go_at_call 100;refine (HO.out _ H0.out.1).mono ?_;rintro e w1 ⟨⟨s,rfl,ho⟩,hb1⟩;obtain ⟨a1,c1,rfl⟩:=kt ho;have HO1:=vm (OwnO.is ho);clear ho)
  | (go_at_call 153;refine (HTd.out a1 c1 _ HO1.out).mono ?_;rintro e w2 ⟨⟨v2,xs,rfl,hp,hs,ho2⟩,hb2⟩;obtain ⟨L,hL⟩:∃ L,L=tellL 1073741824 xs (goneOf t.list) 0:=⟨_,rfl⟩;rw [← hL] at ho2;have HL:Hid (TextL t.list L):=⟨xs,hp,hs,hL⟩;have HLX:=vm (qd hp hL);obtain ⟨a2,c2,rfl⟩:=kt ho2;have hLm:=ownO_len ho2;have HO2:=vm (OwnO.is ho2);have hb12:=hb1.trans (hb2.mono hb1.size);have H2:=vm (qd (H0.out.1.trans (hb12.mono H0.out.1.size)) (qd (H0.out.2.below hb12 H0.out.2.lt) trivial));have RR:=H2.out.2.1;clear hb1 hb2 hb12 hp hs hL ho2))
 by_cases h1:at'<0
 ·go_wp2_with (refine wpList_store_row rfl 43 (.tmp 4) (.tmp 21) rfl w.heap.size (rowOf 6 (opV o0)) rfl rfl _ _ RR (by rw [rowOf_size];exact vd) rfl (vh _) ?_)
  (try simp only [Exit.inBlock,Exit.then])
  exact bodyPost_ret (ko Tryz.results135 _ _ w.heap.size 43 _ (0,0) _ _ rfl rfl (RowIs.setRow RR (opV o0)) Tryz.underlying43 rfl (by rw [rowOf_size];exact vd)) rfl ⟨L,HL.out,o0,2,rfl,Or.inl ⟨Or.inl h1,rfl,rfl,kn H2.out.1 (qb _) _⟩⟩
 ·by_cases h2:(L.length:Int)≤at'
  ·go_wp2_with (refine wpList_store_row rfl 43 (.tmp 4) (.tmp 21) rfl w.heap.size (rowOf 6 (opV o0)) rfl rfl _ _ RR (by rw [rowOf_size];exact vd) rfl (vh _) ?_)
   (try simp only [Exit.inBlock,Exit.then])
   exact bodyPost_ret (ko Tryz.results135 _ _ w.heap.size 43 _ (0,0) _ _ rfl rfl (RowIs.setRow RR (opV o0)) Tryz.underlying43 rfl (by rw [rowOf_size];exact vd)) rfl ⟨L,HL.out,o0,2,rfl,Or.inl ⟨Or.inr h2,rfl,rfl,kn H2.out.1 (qb _) _⟩⟩
  ·obtain ⟨k,rfl⟩:∃ k:Nat,at'=(k:Int):=⟨at'.toNat,by omega⟩;have hkL:k<L.length:=by omega
   obtain ⟨o1,ho1⟩:∃ o1,L[k]?=some o1:=⟨_,qk hkL⟩;have HK1:Hid (KeyT o1):=HKT.out o1 (TextL_mem HL.out o1 (List.mem_of_getElem? ho1))
   obtain ⟨g,off,rfl,hat⟩:∃ g off,a2=some (Ad g off)∧OpsAt w2 g off L:=by
    rcases HO2.out with e|e
    ·rw [e] at hkL;cases hkL
    ·exact e
   have e1:L[k]=o1:=by rw [qk hkL] at ho1;exact qq ho1
   have kk:=fun j hj=>hat k hkL j hj;simp only [e1] at kk;have q0:w2.cell? ⟨g,off+k*6,none⟩=some (I6 o1.kd):=kk 0 (by omega);have q1:w2.cell? ⟨g,off+k*6+1,none⟩=some (U3 o1.cl):=kk 1 (by omega);have q2:w2.cell? ⟨g,off+k*6+2,none⟩=some (U3 o1.ck):=kk 2 (by omega);have q3:w2.cell? ⟨g,off+k*6+3,none⟩=some (U3 o1.st):=kk 3 (by omega);have q4:w2.cell? ⟨g,off+k*6+4,none⟩=some (U6 o1.rf):=kk 4 (by omega);have q5:w2.cell? ⟨g,off+k*6+5,none⟩=some (I3 o1.ch):=kk 5 (by omega)
   have HE1:Hid ((getO L[(k:Int).toNat]?).key=o1.cl*1048576+o1.ck):=by
    show (getO L[(k:Int).toNat]?).key=o1.cl*1048576+o1.ck;rw [Int.toNat_natCast,ho1];rfl
   clear kk e1 ho1 hat
   go_wp2_with (first
    | (go_at_call 93;refine (kz _ _ _ _ _ _ HK1.out.1 HK1.out.2 _).mono ?_;rintro e w5 ⟨rfl,hb5⟩;have H5:=vm (qd (H2.out.1.trans (hb5.mono H2.out.1.size)) (H2.out.2.1.below hb5 H2.out.2.1.lt));clear hb5)
    | (go_at_call 155;refine (HW.out _ H5.out.1 _).mono ?_;rintro e w4 ⟨o2,n2,rfl,hq4⟩;have R4:RowIs w4 w.heap.size 43 6 (opV o0):=HQR.out _ _ _ _ H5.out.1 H5.out.2 hq4;have H4:=vm (hq4.from H5.out.1);clear hq4)
    | (refine wpList_store_row rfl 43 (.tmp 4) (.tmp 30) rfl w.heap.size (rowOf 6 (opV o2)) rfl rfl _ _ R4 (by rw [rowOf_size];exact vd) (by rw [rowOf_size,rowOf_size]) (vh _) ?_))
   exact bodyPost_ret (ko Tryz.results135 _ _ w.heap.size 43 _ (0,0) _ _ rfl rfl (RowIs.setRow R4 (opV o2)) Tryz.underlying43 rfl (by rw [rowOf_size];exact vd)) rfl ⟨L,HL.out,o2,n2,rfl,Or.inr ⟨by omega,by omega,by rw [HE1.out];exact H4.out.putRow R4 (qb _) hbl HVB.out _⟩⟩

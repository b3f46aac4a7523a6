import Derived.Test.YtgccjefbedpmpaaGreatDoorXRTake2
namespace Go.Proofs.YtgccjefbedpmpaaGreatDoor
open Go.RowKit
set_option maxRecDepth 100000
set_option maxHeartbeats 8000000
theorem refIns_any (b:Nat) (cl:Int) (vL vW:Value) (ss:Int) (dn:Bool) (vK:Value) (os ws:List Opn) (at' ch:Int) (w:World) (H:RefIs w b cl vL vW ss dn vK os ws) (hB:BookOk os ws) (hcl:1≤cl∧cl≤1048575) (ha:at'≤9223372036854775807) :
  Calls Tryz.prog 78 #[.pointer (some ⟨b,0,none⟩),.int .i64 at',.int .i32 ch] w fun e w'=>RefW b cl ss dn vK vL vW (insN cl os ws at' ch) w e w':=by
 have hbl:=H.row.lt
 have H0:Hid (BoxS w (w.alloc (.cells #[.int .i64 0,.int .u32 0,.int .u32 0,.int .u32 0,.int .u64 0,.int .i32 0] 43)) o0):=BoxS.new w o0
 have HRf:=hid2 H
 have HV:=hid2 (refVis_any b cl vL vW ss dn vK os ws _ (H.below (below1' w (.cells #[.int .i64 0,.int .u32 0,.int .u32 0,.int .u32 0,.int .u64 0,.int .i32 0] 43))) hB.set)
 have HVL:Hid (∀ x,vL.ownBlock=some x→x<w.heap.size):=fun x hx=>(World.ownsRow.lt H.hL x hx).2
 have HVW:Hid (∀ x,vW.ownBlock=some x→x<w.heap.size):=fun x hx=>(World.ownsRow.lt H.hW x hx).2
 have hl:=vis_len hB.set
 have HKV:Hid (∀ x∈visR os,KeyT x):=fun x hx=>hB.set.keyT x (visR_mem hx).1
 have HBk:=hid2 hB
 have HN0:Hid (at'<0∨((visR os).length:Int)<at'→insN cl os ws at' ch=(o0,2,(os,ws))):=fun h=>by unfold insN;rw [if_pos h]
 have HN1:Hid (¬ (at'<0∨((visR os).length:Int)<at')→okChar ch=false→insN cl os ws at' ch=(o0,3,(os,ws))):=fun h h2=>by unfold insN;rw [if_neg h,if_pos h2]
 have HN2:Hid (¬ (at'<0∨((visR os).length:Int)<at')→okChar ch=true→insN cl os ws at' ch=writeN cl os ws ⟨1,0,0,0,refAt (visR os) at',ch⟩∧OwnRf os ⟨1,0,0,0,refAt (visR os) at',ch⟩):=fun h h2=>⟨by unfold insN;rw [if_neg h,if_neg (by rw [h2];simp)],ins_own h h2⟩
 generalize insN cl os ws at' ch=M at *
 generalize visR os=L at *
 clear H hB
 rcases Int.lt_or_le at' 0 with h1|h1
 ·have HM:=hid2 (HN0.out (Or.inl h1))
  go_enter Tryz.func78,Tryz.ntmps78
  go_wp2_with (first
   | (go_at_call 132;refine HV.out.mono ?_;rintro e w2 ⟨⟨v2,rfl,ho2⟩,hb2⟩;have HB2:=hid2 (H0.out.kept hb2);have R2:=HB2.out.box;obtain ⟨a2,c2,rfl⟩:=ownO_form ho2;clear hb2)
   | (refine wpList_store_row rfl 43 (.tmp 6) (.tmp 21) rfl w.heap.size (rowOf 6 (opV o0)) rfl rfl _ _ R2 (by rw [rowOf_size];exact infoOp6) rfl (opV_one _) ?_))
  exact bodyPost_ret (results_cell_tmp Tryz.results78 _ _ w.heap.size 43 _ (0,0) _ _ rfl rfl (R2.setRow (opV o0)) Tryz.underlying43 rfl (by rw [rowOf_size];exact infoOp6)) rfl (by rw [HM.out];exact ⟨rfl,RefP.put HB2.out.below (RefP.refl (HRf.out.below HB2.out.below)) R2 (Nat.le_refl _) R2.lt HVL.out HVW.out _⟩)
 ·rcases Int.lt_or_le (L.length:Int) at' with h2|h2
  ·have HM:=hid2 (HN0.out (Or.inr h2))
   go_enter Tryz.func78,Tryz.ntmps78
   go_wp2_with (first
    | (go_at_call 132;refine HV.out.mono ?_;rintro e w2 ⟨⟨v2,rfl,ho2⟩,hb2⟩;have HB2:=hid2 (H0.out.kept hb2);have R2:=HB2.out.box;obtain ⟨a2,c2,rfl⟩:=ownO_form ho2;clear hb2)
    | (refine wpList_store_row rfl 43 (.tmp 6) (.tmp 21) rfl w.heap.size (rowOf 6 (opV o0)) rfl rfl _ _ R2 (by rw [rowOf_size];exact infoOp6) rfl (opV_one _) ?_))
   exact bodyPost_ret (results_cell_tmp Tryz.results78 _ _ w.heap.size 43 _ (0,0) _ _ rfl rfl (R2.setRow (opV o0)) Tryz.underlying43 rfl (by rw [rowOf_size];exact infoOp6)) rfl (by rw [HM.out];exact ⟨rfl,RefP.put HB2.out.below (RefP.refl (HRf.out.below HB2.out.below)) R2 (Nat.le_refl _) R2.lt HVL.out HVW.out _⟩)
  ·cases hch:okChar ch with
   | false=>
    have HM:=hid2 (HN1.out (by omega) hch)
    go_enter Tryz.func78,Tryz.ntmps78
    go_wp2_with (first
     | (go_at_call 132;refine HV.out.mono ?_;rintro e w2 ⟨⟨v2,rfl,ho2⟩,hb2⟩;have HB2:=hid2 (H0.out.kept hb2);have R2:=HB2.out.box;obtain ⟨a2,c2,rfl⟩:=ownO_form ho2;clear hb2)
     | (go_at_call 133;refine (isChar_all ch _).mono ?_;rintro e w3 ⟨rfl,hw3⟩;obtain rfl:=hw3.symm)
     | (refine wpList_store_row rfl 43 (.tmp 6) (.tmp 26) rfl w.heap.size (rowOf 6 (opV o0)) rfl rfl _ _ R2 (by rw [rowOf_size];exact infoOp6) rfl (opV_one _) ?_))
    exact bodyPost_ret (results_cell_tmp Tryz.results78 _ _ w.heap.size 43 _ (0,0) _ _ rfl rfl (R2.setRow (opV o0)) Tryz.underlying43 rfl (by rw [rowOf_size];exact infoOp6)) rfl (by rw [HM.out];exact ⟨rfl,RefP.put HB2.out.below (RefP.refl (HRf.out.below HB2.out.below)) R2 (Nat.le_refl _) R2.lt HVL.out HVW.out _⟩)
   | true=>
    obtain ⟨hM,hOw⟩:=HN2.out (by omega) hch
    have HM:=hid2 hM
    have HOw:=hid2 hOw
    have HOn:Hid (∀ W,Below w.heap.size w W→Calls Tryz.prog 134 #[.pointer (some ⟨b,0,none⟩),.int .i64 1,.int .u64 (refAt L at'),.int .i32 ch] W fun e w'=>RefW b cl ss dn vK vL vW M W e w'):=fun W hW=>by rw [HM.out];exact refOwn_any b cl vL vW ss dn vK os ws 1 (refAt L at') ch W (HRf.out.below hW) HBk.out hcl HOw.out
    clear hM hOw
    rcases Int.lt_or_le 0 at' with h3|h3
    ·obtain ⟨n,hat⟩:∃ n:Nat,at'-1=(n:Int):=⟨(at'-1).toNat,by omega⟩
     have hnl:n<L.length:=by omega
     have HKn:=hid2 (HKV.out _ (List.getElem_mem hnl))
     have HRa:Hid (refAt L at'=L[n].cl*1048576+L[n].ck):=by
      show _=_
      unfold refAt
      rw [if_pos h3,show (at'-1).toNat=n by omega,List.getElem?_eq_getElem hnl]
      rfl
     go_enter Tryz.func78,Tryz.ntmps78
     go_wp2_with (first
      | (go_at_call 132;refine HV.out.mono ?_;rintro e w2 ⟨⟨v2,rfl,ho2⟩,hb2⟩;have HB2:=hid2 (H0.out.kept hb2);rcases ho2.2 with ⟨e,e1⟩|⟨g,cap,cur,rfl,_⟩;(case inl=>omega);have hcs:=(OwnO.at0 ho2).cells hnl;simp only [Nat.zero_add] at hcs;obtain ⟨q0,q1,q2,q3,q4,q5⟩:=hcs;clear hb2)
      | (go_at_call 133;refine (isChar_all ch _).mono ?_;rintro e w3 ⟨rfl,hw3⟩;obtain rfl:=hw3.symm)
      | (go_at_call 124;refine (keyG _ _ _ _ _ _ HKn.out.1 HKn.out.2 _).mono ?_;rintro e w4 ⟨rfl,hb4⟩;rw [← HRa.out];have HB4:=hid2 (HB2.out.kept hb4);clear hb4 q0 q1 q2 q3 q4 q5)
      | (go_at_call 134;refine (HOn.out _ HB4.out.below).mono ?_;rintro e w5 ⟨rfl,hP5⟩;have HP5:=hid2 hP5;have hbt:But (fun x=>x=b) w4 w5:=(by obtain ⟨_,_,_,_,_,k⟩:=hP5;exact k);have R5:=HB4.out.box.but hbt (fun e=>(by have:w.heap.size=b:=e;omega));clear hP5 hbt)
      | (refine wpList_store_row rfl 43 (.tmp 6) (.tmp 39) rfl w.heap.size (rowOf 6 (opV M.1)) rfl rfl _ _ R5 (by rw [rowOf_size];exact infoOp6) (by rw [rowOf_size,rowOf_size]) (opV_one _) ?_))
     exact bodyPost_ret (results_cell_tmp Tryz.results78 _ _ w.heap.size 43 _ (0,0) _ _ rfl rfl (R5.setRow (opV M.1)) Tryz.underlying43 rfl (by rw [rowOf_size];exact infoOp6)) rfl ⟨rfl,RefP.put HB4.out.below HP5.out R5 (Nat.le_refl _) HB4.out.box.lt HVL.out HVW.out _⟩
    ·have hz:at'=0:=by omega
     subst hz
     have HRa:Hid (refAt L 0=0):=rfl
     rw [HRa.out] at HOn
     go_enter Tryz.func78,Tryz.ntmps78
     go_wp2_with (first
      | (go_at_call 132;refine HV.out.mono ?_;rintro e w2 ⟨⟨v2,rfl,ho2⟩,hb2⟩;have HB2:=hid2 (H0.out.kept hb2);obtain ⟨a2,c2,rfl⟩:=ownO_form ho2;clear hb2)
      | (go_at_call 133;refine (isChar_all ch _).mono ?_;rintro e w3 ⟨rfl,hw3⟩;obtain rfl:=hw3.symm)
      | (go_at_call 134;refine (HOn.out _ HB2.out.below).mono ?_;rintro e w5 ⟨rfl,hP5⟩;have HP5:=hid2 hP5;have hbt:But (fun x=>x=b) w2 w5:=(by obtain ⟨_,_,_,_,_,k⟩:=hP5;exact k);have R5:=HB2.out.box.but hbt (fun e=>(by have:w.heap.size=b:=e;omega));clear hP5 hbt)
      | (refine wpList_store_row rfl 43 (.tmp 6) (.tmp 39) rfl w.heap.size (rowOf 6 (opV M.1)) rfl rfl _ _ R5 (by rw [rowOf_size];exact infoOp6) (by rw [rowOf_size,rowOf_size]) (opV_one _) ?_))
     exact bodyPost_ret (results_cell_tmp Tryz.results78 _ _ w.heap.size 43 _ (0,0) _ _ rfl rfl (R5.setRow (opV M.1)) Tryz.underlying43 rfl (by rw [rowOf_size];exact infoOp6)) rfl ⟨rfl,RefP.put HB2.out.below HP5.out R5 (Nat.le_refl _) HB2.out.box.lt HVL.out HVW.out _⟩
theorem refDel_any (b:Nat) (cl:Int) (vL vW:Value) (ss:Int) (dn:Bool) (vK:Value) (os ws:List Opn) (at':Int) (w:World) (H:RefIs w b cl vL vW ss dn vK os ws) (hB:BookOk os ws) (hcl:1≤cl∧cl≤1048575) (ha:at'≤9223372036854775807) :
  Calls Tryz.prog 80 #[.pointer (some ⟨b,0,none⟩),.int .i64 at'] w fun e w'=>RefW b cl ss dn vK vL vW (delN cl os ws at') w e w':=by
 have hbl:=H.row.lt
 have H0:Hid (BoxS w (w.alloc (.cells #[.int .i64 0,.int .u32 0,.int .u32 0,.int .u32 0,.int .u64 0,.int .i32 0] 43)) o0):=BoxS.new w o0
 have HRf:=hid2 H
 have HV:=hid2 (refVis_any b cl vL vW ss dn vK os ws _ (H.below (below1' w (.cells #[.int .i64 0,.int .u32 0,.int .u32 0,.int .u32 0,.int .u64 0,.int .i32 0] 43))) hB.set)
 have HVL:Hid (∀ x,vL.ownBlock=some x→x<w.heap.size):=fun x hx=>(World.ownsRow.lt H.hL x hx).2
 have HVW:Hid (∀ x,vW.ownBlock=some x→x<w.heap.size):=fun x hx=>(World.ownsRow.lt H.hW x hx).2
 have hl:=vis_len hB.set
 have HKV:Hid (∀ x∈visR os,KeyT x):=fun x hx=>hB.set.keyT x (visR_mem hx).1
 have HBk:=hid2 hB
 have HN0:Hid (at'<0∨((visR os).length:Int)≤at'→delN cl os ws at'=(o0,2,(os,ws))):=fun h=>by unfold delN;rw [if_pos h]
 have HN2:Hid (¬ (at'<0∨((visR os).length:Int)≤at')→delN cl os ws at'=writeN cl os ws ⟨2,0,0,0,(getO (visR os)[at'.toNat]?).key,0⟩∧OwnRf os ⟨2,0,0,0,(getO (visR os)[at'.toNat]?).key,0⟩):=fun h=>⟨by unfold delN;rw [if_neg h],del_own HBk.out.set h⟩
 generalize delN cl os ws at'=M at *
 generalize visR os=L at *
 clear H hB
 rcases Int.lt_or_le at' 0 with h1|h1
 ·have HM:=hid2 (HN0.out (Or.inl h1))
  go_enter Tryz.func80,Tryz.ntmps80
  go_wp2_with (first
   | (go_at_call 132;refine HV.out.mono ?_;rintro e w2 ⟨⟨v2,rfl,ho2⟩,hb2⟩;have HB2:=hid2 (H0.out.kept hb2);have R2:=HB2.out.box;obtain ⟨a2,c2,rfl⟩:=ownO_form ho2;clear hb2)
   | (refine wpList_store_row rfl 43 (.tmp 4) (.tmp 17) rfl w.heap.size (rowOf 6 (opV o0)) rfl rfl _ _ R2 (by rw [rowOf_size];exact infoOp6) rfl (opV_one _) ?_))
  exact bodyPost_ret (results_cell_tmp Tryz.results80 _ _ w.heap.size 43 _ (0,0) _ _ rfl rfl (R2.setRow (opV o0)) Tryz.underlying43 rfl (by rw [rowOf_size];exact infoOp6)) rfl (by rw [HM.out];exact ⟨rfl,RefP.put HB2.out.below (RefP.refl (HRf.out.below HB2.out.below)) R2 (Nat.le_refl _) R2.lt HVL.out HVW.out _⟩)
 ·rcases Int.lt_or_le at' (L.length:Int) with h2|h2
  ·obtain ⟨n,rfl⟩:∃ n:Nat,at'=(n:Int):=⟨at'.toNat,by omega⟩
   obtain ⟨hM,hOw⟩:=HN2.out (by omega)
   have hnl:n<L.length:=by omega
   rw [Int.toNat_natCast,List.getElem?_eq_getElem hnl] at hM hOw
   have HM:=hid2 hM
   have HOw:=hid2 hOw
   have HOn:Hid (∀ W,Below w.heap.size w W→Calls Tryz.prog 134 #[.pointer (some ⟨b,0,none⟩),.int .i64 2,.int .u64 (L[n].cl*1048576+L[n].ck),.int .i32 0] W fun e w'=>RefW b cl ss dn vK vL vW M W e w'):=fun W hW=>by rw [HM.out];exact refOwn_any b cl vL vW ss dn vK os ws 2 L[n].key 0 W (HRf.out.below hW) HBk.out hcl HOw.out
   have HKn:=hid2 (HKV.out _ (List.getElem_mem hnl))
   clear hM hOw
   go_enter Tryz.func80,Tryz.ntmps80
   go_wp2_with (first
    | (go_at_call 132;refine HV.out.mono ?_;rintro e w2 ⟨⟨v2,rfl,ho2⟩,hb2⟩;have HB2:=hid2 (H0.out.kept hb2);rcases ho2.2 with ⟨e,e1⟩|⟨g,cap,cur,rfl,_⟩;(case inl=>omega);have hcs:=(OwnO.at0 ho2).cells hnl;simp only [Nat.zero_add] at hcs;obtain ⟨q0,q1,q2,q3,q4,q5⟩:=hcs;clear hb2)
    | (go_at_call 124;refine (keyG _ _ _ _ _ _ HKn.out.1 HKn.out.2 _).mono ?_;rintro e w4 ⟨rfl,hb4⟩;have HB4:=hid2 (HB2.out.kept hb4);clear hb4 q0 q1 q2 q3 q4 q5)
    | (go_at_call 134;refine (HOn.out _ HB4.out.below).mono ?_;rintro e w5 ⟨rfl,hP5⟩;have HP5:=hid2 hP5;have hbt:But (fun x=>x=b) w4 w5:=(by obtain ⟨_,_,_,_,_,k⟩:=hP5;exact k);have R5:=HB4.out.box.but hbt (fun e=>(by have:w.heap.size=b:=e;omega));clear hP5 hbt)
    | (refine wpList_store_row rfl 43 (.tmp 4) (.tmp 25) rfl w.heap.size (rowOf 6 (opV M.1)) rfl rfl _ _ R5 (by rw [rowOf_size];exact infoOp6) (by rw [rowOf_size,rowOf_size]) (opV_one _) ?_))
   exact bodyPost_ret (results_cell_tmp Tryz.results80 _ _ w.heap.size 43 _ (0,0) _ _ rfl rfl (R5.setRow (opV M.1)) Tryz.underlying43 rfl (by rw [rowOf_size];exact infoOp6)) rfl ⟨rfl,RefP.put HB4.out.below HP5.out R5 (Nat.le_refl _) HB4.out.box.lt HVL.out HVW.out _⟩
  ·have HM:=hid2 (HN0.out (Or.inr h2))
   go_enter Tryz.func80,Tryz.ntmps80
   go_wp2_with (first
    | (go_at_call 132;refine HV.out.mono ?_;rintro e w2 ⟨⟨v2,rfl,ho2⟩,hb2⟩;have HB2:=hid2 (H0.out.kept hb2);have R2:=HB2.out.box;obtain ⟨a2,c2,rfl⟩:=ownO_form ho2;clear hb2)
    | (refine wpList_store_row rfl 43 (.tmp 4) (.tmp 17) rfl w.heap.size (rowOf 6 (opV o0)) rfl rfl _ _ R2 (by rw [rowOf_size];exact infoOp6) rfl (opV_one _) ?_))
   exact bodyPost_ret (results_cell_tmp Tryz.results80 _ _ w.heap.size 43 _ (0,0) _ _ rfl rfl (R2.setRow (opV o0)) Tryz.underlying43 rfl (by rw [rowOf_size];exact infoOp6)) rfl (by rw [HM.out];exact ⟨rfl,RefP.put HB2.out.below (RefP.refl (HRf.out.below HB2.out.below)) R2 (Nat.le_refl _) R2.lt HVL.out HVW.out _⟩)
theorem RTS.put74 {x:Nat} {W:World} {b:Nat} {o:Opn} (h:RTS x W b o) (v:Value):RTS x (W.setCell ⟨b,74,none⟩ v) b o:=by
 obtain ⟨a1,a2,a3,a4,a5,a6,r⟩:=h.row
 exact ⟨⟨a1,a2,v,a4,a5,a6,ref_W r v⟩,h.box.setOther (a:=⟨b,74,none⟩) (fun e=>absurd (RowIs.type_eq r ((show b=x from e)▸h.box)) (by decide)) v⟩
theorem refAdd_any (b:Nat) (cl:Int) (vL vW:Value) (ss:Int) (dn:Bool) (vK:Value) (os ws:List Opn) (o:Opn) (w:World) (H:RefIs w b cl vL vW ss dn vK os ws) (hB:BookOk os ws) (hT:OpT o) :
  Calls Tryz.prog 81 #[.pointer (some ⟨b,0,none⟩),.agg #[.int .i64 o.kd,.int .u32 o.cl,.int .u32 o.ck,.int .u32 o.st,.int .u64 o.rf,.int .i32 o.ch]] w fun e w'=>e=.returned (.int .i64 (addN os ws o).1)∧RefP b cl ss dn vK vL vW (addN os ws o).2 w w':=by
 obtain ⟨aL,cL,rfl⟩:=ownK_form H.hL
 obtain ⟨aW,cW,rfl⟩:=ownO_form H.hW
 have hbl:=H.row.lt
 have hn:=hB.set.len
 have hwn:=hB.len
 have HRf:=hid2 H
 have HBk:=hid2 hB
 have HWk:Hid (∀ x∈ws,KeyT x):=fun x hx=>by have:=ok_nums (hB.ok x hx);exact ⟨by omega,by omega⟩
 have HK:Hid (KeyT o):=⟨hT.cl,hT.ck⟩
 have HIs:=hid2 (isOp_any o.kd o.cl o.ck o.st o.rf o.ch hT.cl hT.ck hT.rf.1 hT.rf.2 (w.alloc (.cells #[.int .i64 o.kd,.int .u32 o.cl,.int .u32 o.ck,.int .u32 o.st,.int .u64 o.rf,.int .i32 o.ch] 43)))
 have HTh:Hid (∀ W,Below w.heap.size w W→Calls Tryz.prog 136 #[.slice aL os.length cL,.int .u64 (o.cl*1048576+o.ck)] W fun e w'=>e=.returned (.int .i64 (fIdx os o.key))∧Below W.heap.size W w'):=fun W hW=>there_any os aL cL _ W (OwnK.is (HRf.out.below hW).hL) HBk.out.set.keyT (by omega)
 have HFd:Hid (∀ W,Below w.heap.size w W→Calls Tryz.prog 137 #[.slice aW ws.length cW,.int .u64 (o.cl*1048576+o.ck)] W fun e w'=>e=.returned (.int .i64 (fIdx ws o.key))∧Below W.heap.size W w'):=fun W hW=>find_any ws aW cW _ W (OwnO.is (HRf.out.below hW).hW) HWk.out (by omega)
 have H0:=hid2 (BoxS.new w o)
 have HAd:Hid (addN os ws o=addN os ws o):=rfl
 generalize hMM:addN os ws o=M
 have HMM:=hid2 hMM
 clear H hB hMM HAd
 cases hok:o.ok with
 | false=>
  have HM:Hid (M=(4,(os,ws))):=by show _=_;rw [← HMM.out];unfold addN;rw [hok];rfl
  have HI2:Hid (okOp o.kd o.cl o.ck o.st o.rf o.ch=false):=hok
  rw [HI2.out] at HIs
  go_enter Tryz.func81,Tryz.ntmps81
  go_wp2_with (go_at_call 123;refine HIs.out.mono ?_;rintro e w1 ⟨rfl,hb1⟩)
  go_ret
  exact ⟨by rw [HM.out];rfl,by rw [HM.out];exact RefP.below (RefP.refl HRf.out) (H0.out.kept hb1).below⟩
 | true=>
  have HI2:Hid (okOp o.kd o.cl o.ck o.st o.rf o.ch=true):=hok
  rw [HI2.out] at HIs
  have HMk:Hid ((os.any (fun x=>decide (x.key=o.key))||ws.any (fun x=>decide (x.key=o.key)))=true→M=(5,(os,ws))):=fun h=>by rw [← HMM.out];unfold addN;rw [hok,h];rfl
  have HOk:=hid2 hok
  go_enter Tryz.func81,Tryz.ntmps81
  go_wp2_with (go_at_call 123;refine HIs.out.mono ?_;rintro e w1 ⟨rfl,hb1⟩;have H1:=hid2 (H0.out.kept hb1);clear hb1 H0 HIs)
  refine wp_region_held_drew (S:=fun W=>BoxS w W o) (by kernel_rfl) (H1.out.kept (Below.refl _ _).drew) (fun hHeld=>?_)
  generalize World.drew _=wD at hHeld ⊢
  clear H1
  cases hos:os.any (fun x=>decide (x.key=o.key)) with
  | true=>
   have hd1:decide (0≤fIdx os o.key)=true:=fIdx_any.trans hos
   have HM:=hid2 (HMk.out (by rw [hos];rfl))
   clear hok
   refine wF (fun W h=>aI ((HRf.out.below h.below).L) (aI ((HRf.out.below h.below).W) (boxCells h.box))) fun x1=>?_
   refine tkx 0 11 x1 ?_
   refine tkx 1 12 x1 ?_
   refine tkx 2 13 x1 ?_
   refine tkx 3 14 x1 ?_
   refine tkx 4 15 x1 ?_
   refine rd 5 (some 16) rfl (fun K hK=>?_)
   go_simp
   refine (keyG _ _ _ _ _ _ HK.out.1 HK.out.2 _).mono ?_
   rintro e wk1 ⟨rfl,hb⟩
   refine hK.out _ _ (hHeld.kept hb) (fun hHeld=>?_)
   clear hK K hb
   refine rd 6 (some 17) rfl (fun K hK=>?_)
   go_simp
   refine (HTh.out _ hHeld.below).mono ?_
   rintro e wt ⟨rfl,hb⟩
   refine hK.out _ _ (hHeld.kept hb) (fun hHeld=>?_)
   clear hK K hb
   refine tkx 7 18 x1 ?_
   refine tkx 8 19 x1 ?_
   refine tku 9 20 ?_
   refine tku 10 21 ?_
   refine tku 11 22 ?_
   refine tku 12 23 ?_
   refine tku 13 24 ?_
   refine tku 14 25 ?_
   refine tku 15 26 ?_
   refine tku 16 27 ?_
   refine tkx 17 28 x1 ?_
   refine wdn ?_
   go_wp2_with fail
   go_ret
   exact ⟨by rw [HM.out];rfl,by rw [HM.out];exact RefP.below (RefP.refl HRf.out) hHeld.below⟩
  | false=>
   have hd1:decide (0≤fIdx os o.key)=false:=fIdx_any.trans hos
   cases hws:ws.any (fun x=>decide (x.key=o.key)) with
   | true=>
    have hd2:decide (0≤fIdx ws o.key)=true:=fIdx_any.trans hws
    have HM:=hid2 (HMk.out (by rw [hos,hws];rfl))
    clear hok
    refine wF (fun W h=>aI ((HRf.out.below h.below).L) (aI ((HRf.out.below h.below).W) (boxCells h.box))) fun x1=>?_
    refine tkx 0 11 x1 ?_
    refine tkx 1 12 x1 ?_
    refine tkx 2 13 x1 ?_
    refine tkx 3 14 x1 ?_
    refine tkx 4 15 x1 ?_
    refine rd 5 (some 16) rfl (fun K hK=>?_)
    go_simp
    refine (keyG _ _ _ _ _ _ HK.out.1 HK.out.2 _).mono ?_
    rintro e wk1 ⟨rfl,hb⟩
    refine hK.out _ _ (hHeld.kept hb) (fun hHeld=>?_)
    clear hK K hb
    refine rd 6 (some 17) rfl (fun K hK=>?_)
    go_simp
    refine (HTh.out _ hHeld.below).mono ?_
    rintro e wt ⟨rfl,hb⟩
    refine hK.out _ _ (hHeld.kept hb) (fun hHeld=>?_)
    clear hK K hb
    refine tkx 7 18 x1 ?_
    refine tkx 8 19 x1 ?_
    refine tkx 9 20 x1 ?_
    refine tkx 10 21 x1 ?_
    refine tkx 11 22 x1 ?_
    refine tkx 12 23 x1 ?_
    refine tkx 13 24 x1 ?_
    refine rd 14 (some 25) rfl (fun K hK=>?_)
    go_simp
    refine (keyG _ _ _ _ _ _ HK.out.1 HK.out.2 _).mono ?_
    rintro e wk2 ⟨rfl,hb⟩
    refine hK.out _ _ (hHeld.kept hb) (fun hHeld=>?_)
    clear hK K hb
    refine rd 15 (some 26) rfl (fun K hK=>?_)
    go_simp
    refine (HFd.out _ hHeld.below).mono ?_
    rintro e wf ⟨rfl,hb⟩
    refine hK.out _ _ (hHeld.kept hb) (fun hHeld=>?_)
    clear hK K hb
    refine tkx 16 27 x1 ?_
    refine tkx 17 28 x1 ?_
    refine wdn ?_
    go_wp2_with fail
    go_ret
    exact ⟨by rw [HM.out];rfl,by rw [HM.out];exact RefP.below (RefP.refl HRf.out) hHeld.below⟩
   | false=>
    have hd2:decide (0≤fIdx ws o.key)=false:=fIdx_any.trans hws
    have HRd:Hid (∀ W,Below w.heap.size w W→Calls Tryz.prog 138 #[.pointer (some ⟨b,0,none⟩),.agg #[.int .i64 o.kd,.int .u32 o.cl,.int .u32 o.ck,.int .u32 o.st,.int .u64 o.rf,.int .i32 o.ch]] W fun e w'=>e=.returned (.bool (readyL os o))∧Below W.heap.size W w'):=fun W hW=>refReady_any b cl _ _ ss dn vK os ws o W (HRf.out.below hW) HBk.out.set HOk.out
    have hM0:M=if readyL os o=true then (if 120≤os.length then (7,(os,ws)) else (0,takeN ws.length (putK o os) ws)) else if 12≤ws.length then (7,(os,ws)) else (6,(os,putK o ws)):=by
     rw [← HMM.out]
     unfold addN
     rw [hok,hos,hws]
     rfl
    have HKn:=hid2 (show (os.any (fun x=>decide (x.key=o.key))||ws.any (fun x=>decide (x.key=o.key)))=false by rw [hos,hws];rfl)
    have HLk:Hid (lessKey o.key ws=ws):=List.filter_eq_self.2 fun x hx=>decide_eq_true (any_not hws x hx)
    clear hok hos hws
    cases hrd:readyL os o with
    | true=>
     rw [hrd] at HRd
     rw [hrd,if_pos rfl] at hM0
     by_cases hf:120≤os.length
     ·rw [if_pos hf] at hM0
      have HM:=hid2 hM0
      clear hM0
      refine wF (fun W h=>aI ((HRf.out.below h.below).L) (aI ((HRf.out.below h.below).W) (boxCells h.box))) fun x1=>?_
      refine tkx 0 11 x1 ?_
      refine tkx 1 12 x1 ?_
      refine tkx 2 13 x1 ?_
      refine tkx 3 14 x1 ?_
      refine tkx 4 15 x1 ?_
      refine rd 5 (some 16) rfl (fun K hK=>?_)
      go_simp
      refine (keyG _ _ _ _ _ _ HK.out.1 HK.out.2 _).mono ?_
      rintro e wk1 ⟨rfl,hb⟩
      refine hK.out _ _ (hHeld.kept hb) (fun hHeld=>?_)
      clear hK K hb
      refine rd 6 (some 17) rfl (fun K hK=>?_)
      go_simp
      refine (HTh.out _ hHeld.below).mono ?_
      rintro e wt ⟨rfl,hb⟩
      refine hK.out _ _ (hHeld.kept hb) (fun hHeld=>?_)
      clear hK K hb
      refine tkx 7 18 x1 ?_
      refine tkx 8 19 x1 ?_
      refine tkx 9 20 x1 ?_
      refine tkx 10 21 x1 ?_
      refine tkx 11 22 x1 ?_
      refine tkx 12 23 x1 ?_
      refine tkx 13 24 x1 ?_
      refine rd 14 (some 25) rfl (fun K hK=>?_)
      go_simp
      refine (keyG _ _ _ _ _ _ HK.out.1 HK.out.2 _).mono ?_
      rintro e wk2 ⟨rfl,hb⟩
      refine hK.out _ _ (hHeld.kept hb) (fun hHeld=>?_)
      clear hK K hb
      refine rd 15 (some 26) rfl (fun K hK=>?_)
      go_simp
      refine (HFd.out _ hHeld.below).mono ?_
      rintro e wf ⟨rfl,hb⟩
      refine hK.out _ _ (hHeld.kept hb) (fun hHeld=>?_)
      clear hK K hb
      refine tkx 16 27 x1 ?_
      refine tkx 17 28 x1 ?_
      refine wdn ?_
      have HB:=hid2 hHeld
      clear hHeld
      obtain ⟨q0,q1,q2,q3,q4,q5⟩:=boxCells HB.out.box
      go_wp2_with (go_at_call 138;refine (HRd.out _ HB.out.below).mono ?_;rintro e w5 ⟨rfl,hb5⟩;have HB5:=hid2 (HB.out.kept hb5);obtain ⟨q0,q1,q2,q3,q4,q5⟩:=boxCells HB5.out.box;have c73:=(HRf.out.below HB5.out.below).L;have c74:=(HRf.out.below HB5.out.below).W;clear hb5 HB)
      go_ret
      exact ⟨by rw [HM.out];rfl,by rw [HM.out];exact RefP.below (RefP.refl HRf.out) HB5.out.below⟩
     ·rw [if_neg hf] at hM0
      have HM:=hid2 hM0
      have HTk:Hid (∀ W,Below w.heap.size w W→Calls Tryz.prog 139 #[.pointer (some ⟨b,0,none⟩),.agg #[.int .i64 o.kd,.int .u32 o.cl,.int .u32 o.ck,.int .u32 o.st,.int .u64 o.rf,.int .i32 o.ch]] W fun e w'=>e=.returned (.tuple #[])∧RefP b cl ss dn vK (.slice aL os.length cL) (.slice aW ws.length cW) (takeN ws.length (putK o os) ws) W w'):=fun W hW=>by
       have h:=refTake_any b cl _ _ ss dn vK os ws o W (HRf.out.below hW) HBk.out.set.by' HBk.out.by' HWk.out (by omega) HBk.out.set.keyT (by omega) HOk.out (by rw [HLk.out];exact add_put HBk.out HOk.out HKn.out hf hrd)
       rwa [HLk.out] at h
      clear hM0
      refine wF (fun W h=>aI ((HRf.out.below h.below).L) (aI ((HRf.out.below h.below).W) (boxCells h.box))) fun x1=>?_
      refine tkx 0 11 x1 ?_
      refine tkx 1 12 x1 ?_
      refine tkx 2 13 x1 ?_
      refine tkx 3 14 x1 ?_
      refine tkx 4 15 x1 ?_
      refine rd 5 (some 16) rfl (fun K hK=>?_)
      go_simp
      refine (keyG _ _ _ _ _ _ HK.out.1 HK.out.2 _).mono ?_
      rintro e wk1 ⟨rfl,hb⟩
      refine hK.out _ _ (hHeld.kept hb) (fun hHeld=>?_)
      clear hK K hb
      refine rd 6 (some 17) rfl (fun K hK=>?_)
      go_simp
      refine (HTh.out _ hHeld.below).mono ?_
      rintro e wt ⟨rfl,hb⟩
      refine hK.out _ _ (hHeld.kept hb) (fun hHeld=>?_)
      clear hK K hb
      refine tkx 7 18 x1 ?_
      refine tkx 8 19 x1 ?_
      refine tkx 9 20 x1 ?_
      refine tkx 10 21 x1 ?_
      refine tkx 11 22 x1 ?_
      refine tkx 12 23 x1 ?_
      refine tkx 13 24 x1 ?_
      refine rd 14 (some 25) rfl (fun K hK=>?_)
      go_simp
      refine (keyG _ _ _ _ _ _ HK.out.1 HK.out.2 _).mono ?_
      rintro e wk2 ⟨rfl,hb⟩
      refine hK.out _ _ (hHeld.kept hb) (fun hHeld=>?_)
      clear hK K hb
      refine rd 15 (some 26) rfl (fun K hK=>?_)
      go_simp
      refine (HFd.out _ hHeld.below).mono ?_
      rintro e wf ⟨rfl,hb⟩
      refine hK.out _ _ (hHeld.kept hb) (fun hHeld=>?_)
      clear hK K hb
      refine tkx 16 27 x1 ?_
      refine tkx 17 28 x1 ?_
      refine wdn ?_
      have HB:=hid2 hHeld
      clear hHeld
      obtain ⟨q0,q1,q2,q3,q4,q5⟩:=boxCells HB.out.box
      go_wp2_with (first
       | (go_at_call 138;refine (HRd.out _ HB.out.below).mono ?_;rintro e w5 ⟨rfl,hb5⟩;have HB5:=hid2 (HB.out.kept hb5);obtain ⟨q0,q1,q2,q3,q4,q5⟩:=boxCells HB5.out.box;have c73:=(HRf.out.below HB5.out.below).L;have c74:=(HRf.out.below HB5.out.below).W;clear hb5 HB)
       | (go_at_call 139;refine (HTk.out _ HB5.out.below).mono ?_;rintro e w6 ⟨rfl,hP6⟩))
      go_ret
      exact ⟨by rw [HM.out];rfl,by rw [HM.out];exact RefP.of HB5.out.below hP6⟩
    | false=>
     rw [hrd] at HRd
     rw [hrd,if_neg (by decide)] at hM0
     by_cases hf:12≤ws.length
     ·rw [if_pos hf] at hM0
      have HM:=hid2 hM0
      clear hM0
      refine wF (fun W h=>aI ((HRf.out.below h.below).L) (aI ((HRf.out.below h.below).W) (boxCells h.box))) fun x1=>?_
      refine tkx 0 11 x1 ?_
      refine tkx 1 12 x1 ?_
      refine tkx 2 13 x1 ?_
      refine tkx 3 14 x1 ?_
      refine tkx 4 15 x1 ?_
      refine rd 5 (some 16) rfl (fun K hK=>?_)
      go_simp
      refine (keyG _ _ _ _ _ _ HK.out.1 HK.out.2 _).mono ?_
      rintro e wk1 ⟨rfl,hb⟩
      refine hK.out _ _ (hHeld.kept hb) (fun hHeld=>?_)
      clear hK K hb
      refine rd 6 (some 17) rfl (fun K hK=>?_)
      go_simp
      refine (HTh.out _ hHeld.below).mono ?_
      rintro e wt ⟨rfl,hb⟩
      refine hK.out _ _ (hHeld.kept hb) (fun hHeld=>?_)
      clear hK K hb
      refine tkx 7 18 x1 ?_
      refine tkx 8 19 x1 ?_
      refine tkx 9 20 x1 ?_
      refine tkx 10 21 x1 ?_
      refine tkx 11 22 x1 ?_
      refine tkx 12 23 x1 ?_
      refine tkx 13 24 x1 ?_
      refine rd 14 (some 25) rfl (fun K hK=>?_)
      go_simp
      refine (keyG _ _ _ _ _ _ HK.out.1 HK.out.2 _).mono ?_
      rintro e wk2 ⟨rfl,hb⟩
      refine hK.out _ _ (hHeld.kept hb) (fun hHeld=>?_)
      clear hK K hb
      refine rd 15 (some 26) rfl (fun K hK=>?_)
      go_simp
      refine (HFd.out _ hHeld.below).mono ?_
      rintro e wf ⟨rfl,hb⟩
      refine hK.out _ _ (hHeld.kept hb) (fun hHeld=>?_)
      clear hK K hb
      refine tkx 16 27 x1 ?_
      refine tkx 17 28 x1 ?_
      refine wdn ?_
      have HB:=hid2 hHeld
      clear hHeld
      obtain ⟨q0,q1,q2,q3,q4,q5⟩:=boxCells HB.out.box
      go_wp2_with (go_at_call 138;refine (HRd.out _ HB.out.below).mono ?_;rintro e w5 ⟨rfl,hb5⟩;have HB5:=hid2 (HB.out.kept hb5);obtain ⟨q0,q1,q2,q3,q4,q5⟩:=boxCells HB5.out.box;have c73:=(HRf.out.below HB5.out.below).L;have c74:=(HRf.out.below HB5.out.below).W;clear hb5 HB)
      go_ret
      exact ⟨by rw [HM.out];rfl,by rw [HM.out];exact RefP.below (RefP.refl HRf.out) HB5.out.below⟩
     ·rw [if_neg hf] at hM0
      have HM:=hid2 hM0
      clear hM0
      refine wF (fun W h=>aI ((HRf.out.below h.below).L) (aI ((HRf.out.below h.below).W) (boxCells h.box))) fun x1=>?_
      refine tkx 0 11 x1 ?_
      refine tkx 1 12 x1 ?_
      refine tkx 2 13 x1 ?_
      refine tkx 3 14 x1 ?_
      refine tkx 4 15 x1 ?_
      refine rd 5 (some 16) rfl (fun K hK=>?_)
      go_simp
      refine (keyG _ _ _ _ _ _ HK.out.1 HK.out.2 _).mono ?_
      rintro e wk1 ⟨rfl,hb⟩
      refine hK.out _ _ (hHeld.kept hb) (fun hHeld=>?_)
      clear hK K hb
      refine rd 6 (some 17) rfl (fun K hK=>?_)
      go_simp
      refine (HTh.out _ hHeld.below).mono ?_
      rintro e wt ⟨rfl,hb⟩
      refine hK.out _ _ (hHeld.kept hb) (fun hHeld=>?_)
      clear hK K hb
      refine tkx 7 18 x1 ?_
      refine tkx 8 19 x1 ?_
      refine tkx 9 20 x1 ?_
      refine tkx 10 21 x1 ?_
      refine tkx 11 22 x1 ?_
      refine tkx 12 23 x1 ?_
      refine tkx 13 24 x1 ?_
      refine rd 14 (some 25) rfl (fun K hK=>?_)
      go_simp
      refine (keyG _ _ _ _ _ _ HK.out.1 HK.out.2 _).mono ?_
      rintro e wk2 ⟨rfl,hb⟩
      refine hK.out _ _ (hHeld.kept hb) (fun hHeld=>?_)
      clear hK K hb
      refine rd 15 (some 26) rfl (fun K hK=>?_)
      go_simp
      refine (HFd.out _ hHeld.below).mono ?_
      rintro e wf ⟨rfl,hb⟩
      refine hK.out _ _ (hHeld.kept hb) (fun hHeld=>?_)
      clear hK K hb
      refine tkx 16 27 x1 ?_
      refine tkx 17 28 x1 ?_
      refine wdn ?_
      have HB:=hid2 hHeld
      clear hHeld
      obtain ⟨q0,q1,q2,q3,q4,q5⟩:=boxCells HB.out.box
      go_wp2_with (go_at_call 138;refine (HRd.out _ HB.out.below).mono ?_;rintro e w5 ⟨rfl,hb5⟩;have HB5:=hid2 (HB.out.kept hb5);obtain ⟨q0,q1,q2,q3,q4,q5⟩:=boxCells HB5.out.box;have c73:=(HRf.out.below HB5.out.below).L;have c74:=(HRf.out.below HB5.out.below).W;clear hb5 HB)
      clear c73 c74 q0 q1 q2 q3 q4 q5
      have HD:=hid2 ((HRf.out.below HB5.out.below).below (Below.refl _ _).drew)
      have HB0:Hid (But (fun x=>x=b) w w5.drew):=(But.below HB5.out.below).trans (But.below (Below.refl _ _).drew)
      refine wp_region_held_drew (S:=fun W=>RTS w.heap.size W b o) (by kernel_rfl) (⟨⟨_,_,_,_,_,_,HD.out.row⟩,HB5.out.box.drew⟩:RTS w.heap.size _ b o) (fun hHeld=>?_)
      generalize World.drew _=wE at HD HB0 hHeld ⊢
      have HPt:=hid2 (put_any _ ws o wE HD.out.hW HBk.out.by' HWk.out HK.out (by omega))
      refine tk0 0 57 ?_
      refine tk0 1 58 ?_
      refine tk0 2 59 ?_
      refine tk0 3 60 ?_
      refine tkf 5 62 (fun _ h=>boxCells h.box) ?_
      refine rd 4 (some 61) rfl (fun K hK=>?_)
      have c74:=HD.out.W
      go_simp
      refine hK.out _ _ hHeld fun hHeld=>?_
      clear hK K c74
      refine rd 6 (some 63) rfl (fun K hK=>?_)
      go_simp
      refine HPt.out.mono ?_
      rintro e w2 ⟨⟨v2,rfl,ho2⟩,hb2⟩
      have H2:=hid2 ((HD.out.below hb2).withW (v:=v2) ho2)
      have hb2':=hid2 hb2
      have c2:=(HD.out.below hb2).W
      have f2:=(HD.out.below hb2).row.free 74
      have HO2:=hid2 ho2
      obtain ⟨a2,k2,rfl⟩:=ownO_form ho2
      refine hK.out _ _ (hHeld.kept hb2) (fun hHeld=>?_)
      clear hK K ho2 hb2
      refine tk0 7 64 ?_
      refine tk0 8 65 ?_
      refine rd 9 none rfl (fun K hK=>?_)
      go_simp
      refine hK.out _ _ (hHeld.put74 _) (fun hHeld=>?_)
      clear hK K c2 f2
      refine wdn ?_
      clear hHeld
      go_wp2_with fail
      go_ret
      exact ⟨by rw [HM.out];rfl,by rw [HM.out];exact ⟨_,_,H2.out,fun _=>Or.inl,fun x hx=>Or.inr (Nat.le_trans HB0.out.size (World.ownsRow.lt HO2.out x hx).1),(HB0.out.trans (But.below hb2'.out)).trans (But.set b 74 _)⟩⟩
end Go.Proofs.YtgccjefbedpmpaaGreatDoor

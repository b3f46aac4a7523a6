import Derived.Test.YtgccjefbedpmpaaGreatDoorYBookM
import Derived.Great.BuildSlice
namespace Go.Proofs.YtgccjefbedpmpaaGreatDoor
open Go.RowKit Go.MuLone
set_option maxRecDepth 100000
set_option maxHeartbeats 8000000
theorem bAdd_full (b:Nat) (st cl ss:Int) (top vW vK:Value) (t:Tr) (ws:List Opn) (o:Opn) (w:World) (H:BookIs w b st cl ss top vW vK t ws) (hby:ByKey ws) (hT:OpT o) (hok:o.ok=true) (htb:(t.get o.key).isSome=false) (hwb:ws.any (fun x=>decide (x.key=o.key))=false) (hrd:rdy t o=true) (hfu:decide (120≤t.size)=true) :
  Calls Tryz.prog 51 #[.pointer (some ⟨b,2,none⟩),.agg #[.int .i64 o.kd,.int .u32 o.cl,.int .u32 o.ck,.int .u32 o.st,.int .u64 o.rf,.int .i32 o.ch]] w fun e w'=>e=.returned (.int .i64 7)∧Below w.heap.size w w':=by
 have HBk:=hidD H
 obtain ⟨p0,rfl⟩:=H.tree.ptr
 obtain ⟨a0,c0,rfl⟩:=ownO_form H.own
 have hbl:=H.row.lt
 have HT:=hidD hT
 have HBY:=hidD hby
 have H0:Hid (AdS w (w.alloc (.cells #[.int .i64 o.kd,.int .u32 o.cl,.int .u32 o.ck,.int .u32 o.st,.int .u64 o.rf,.int .i32 o.ch] 43)) b st cl ss (.pointer p0) (.slice a0 ws.length c0) vK o):=AdS.new w o H.row
 have HR:Hid (Calls Tryz.prog 92 #[.agg #[.int .i64 o.kd,.int .u32 o.cl,.int .u32 o.ck,.int .u32 o.st,.int .u64 o.rf,.int .i32 o.ch]] (w.alloc (.cells #[.int .i64 o.kd,.int .u32 o.cl,.int .u32 o.ck,.int .u32 o.st,.int .u64 o.rf,.int .i32 o.ch] 43)) fun e w'=>e=.returned .nilIface∧Below (w.alloc (.cells #[.int .i64 o.kd,.int .u32 o.cl,.int .u32 o.ck,.int .u32 o.st,.int .u64 o.rf,.int .i32 o.ch] 43)).heap.size (w.alloc (.cells #[.int .i64 o.kd,.int .u32 o.cl,.int .u32 o.ck,.int .u32 o.st,.int .u64 o.rf,.int .i32 o.ch] 43)) w'):=(rightOp_ref _ _ _ _ _ _ hT.cl hT.ck hT.rf.1 hT.rf.2 _ (H.below (below1' _ _)).env.sents).mono fun e w' ⟨x,e1,e2,_,e4⟩=>⟨by rw [e1,e2 hok],e4⟩
 have HG:Hid (∀ W,Below w.heap.size w W→Calls Tryz.prog 94 #[.agg #[.pointer p0],.int .u64 (o.cl*1048576+o.ck)] W fun e w'=>(∃ x:Opn,e=.returned (.tuple #[.agg #[.int .i64 x.kd,.int .u32 x.cl,.int .u32 x.ck,.int .u32 x.st,.int .u64 x.rf,.int .i32 x.ch],.bool false]))∧Below W.heap.size W w'):=fun W hW=>(sGet_any _ t _ W (HBk.out.tree.below hW) HBk.out.typ).mono fun e w' ⟨e1,e2⟩=>⟨⟨getO (t.get o.key),by rw [e1,getV_eq];show _=Ending.returned (.tuple #[_,.bool false]);rw [← htb];rfl⟩,e2⟩
 have HWt:Hid (∀ W,Below w.heap.size w W→Calls Tryz.prog 95 #[.pointer (some ⟨b,2,none⟩),.int .u64 (o.cl*1048576+o.ck)] W fun e w'=>(∃ i:Nat,BsP (fun x=>cmpI x.key o.key) ws i∧e=.returned (.tuple #[.int .i64 i,.bool false]))∧Below W.heap.size W w'):=fun W hW=>(waitsAt_any b st cl ss _ vK a0 c0 ws _ W (HBk.out.below hW).row (OwnO.is (HBk.out.below hW).own) (by have:=HBk.out.wlen;omega) HBY.out HBk.out.wtyp).mono fun e w' ⟨⟨i,e1,e2⟩,e3⟩=>⟨⟨i,e1,by rw [e2,← hwb,← bsF_any (k:=o.key) e1 HBY.out];rfl⟩,e3⟩
 have HRd:Hid (∀ W,Below w.heap.size w W→Calls Tryz.prog 96 #[.pointer (some ⟨b,2,none⟩),.agg #[.int .i64 o.kd,.int .u32 o.cl,.int .u32 o.ck,.int .u32 o.st,.int .u64 o.rf,.int .i32 o.ch]] W fun e w'=>e=.returned (.bool true)∧Below W.heap.size W w'):=fun W hW=>by
  have:=isReady_any b st cl ss _ _ vK t o W (HBk.out.below hW).row (HBk.out.below hW).tree HBk.out.typ ⟨HT.out.cl,HT.out.ck⟩
  rwa [hrd] at this
 have HF:Hid (∀ W,Below w.heap.size w W→Calls Tryz.prog 97 #[.pointer (some ⟨b,2,none⟩)] W fun e w'=>e=.returned (.bool true)∧Below W.heap.size W w'):=fun W hW=>by
  have:=isFull_any b st cl ss _ _ vK t W (HBk.out.below hW).row (HBk.out.below hW).tree (by have:=HBk.out.size;omega)
  rwa [hfu] at this
 clear htb hwb hrd hfu
 clear H hby hT hok
 go_enter Tryz.func51,Tryz.ntmps51
 go_wp2_with (first
  | (go_at_call 92;refine HR.out.mono ?_;rintro e w1 ⟨rfl,hb1⟩;have H1:Hid (AdS w w1 b st cl ss (.pointer p0) (.slice a0 ws.length c0) vK o):=H0.out.kept hb1;obtain ⟨q0,q1,q2,q3,q4,q5⟩:=boxCells H1.out.box;have c3:=H1.out.row.cell (j:=3) (by omega);clear hb1 H0 HR)
  | (go_at_call 59;refine (number_nil _).mono ?_;rintro e w2 ⟨rfl,hw2⟩;obtain rfl:=hw2.symm)
  | (go_at_call 93;refine (pKeyOf_any _ _ _ _ _ _ HT.out.cl HT.out.ck _).mono ?_;rintro e w3 ⟨rfl,hb3⟩;have H3:Hid (AdS w w3 b st cl ss (.pointer p0) (.slice a0 ws.length c0) vK o):=H1.out.kept hb3;have c3:w3.cell? ⟨b,3,none⟩=some (.pointer p0):=H3.out.row.cell (j:=3) (by omega);clear q0 q1 q2 q3 q4 q5 hb3 H1)
  | (go_at_call 94;refine (HG.out _ H3.out.below).mono ?_;rintro e w4 ⟨⟨x,rfl⟩,hb4⟩;have H4:Hid (AdS w w4 b st cl ss (.pointer p0) (.slice a0 ws.length c0) vK o):=H3.out.kept hb4;have R4:RowIs (w4.alloc (.cells #[.int .i64 0,.int .u32 0,.int .u32 0,.int .u32 0,.int .u64 0,.int .i32 0] 43)) w4.heap.size 43 6 (opV o0):=RowIs.last (n:=6) (f:=opV o0) (cs:=#[.int .i64 0,.int .u32 0,.int .u32 0,.int .u32 0,.int .u64 0,.int .i32 0]) rfl rfl;clear hb4 H3 c3 HG)
  | (refine wpList_store_row rfl 43 (.tmp 7) (.tmp 26) rfl w4.heap.size (rowOf 6 (opV x)) rfl rfl _ _ R4 (by rw [rowOf_size];exact infoOp6) (by rw [rowOf_size,rowOf_size]) (opV_one _) ?_;have H5:Hid (AdS w ((w4.alloc (.cells #[.int .i64 0,.int .u32 0,.int .u32 0,.int .u32 0,.int .u64 0,.int .i32 0] 43)).setRow w4.heap.size (rowOf 6 (opV x))) b st cl ss (.pointer p0) (.slice a0 ws.length c0) vK o):=(H4.out.kept (below1' _ _)).put H4.out.over hbl _;clear R4 H4;generalize World.setRow _ _ _=w5 at H5 ⊢)
  | (go_at_call 95;refine (HWt.out _ H5.out.below).mono ?_;rintro e w6 ⟨⟨i,hbp,rfl⟩,hb6⟩;have H6:Hid (AdS w w6 b st cl ss (.pointer p0) (.slice a0 ws.length c0) vK o):=H5.out.kept hb6;have HP:=hidD hbp;obtain ⟨q0,q1,q2,q3,q4,q5⟩:=boxCells H6.out.box;have c4:w6.cell? ⟨b,4,none⟩=some (.slice a0 ws.length c0):=H6.out.row.cell (j:=4) (by omega);clear hb6 hbp H5 HWt)
  | (go_at_call 96;refine (HRd.out _ H6.out.below).mono ?_;rintro e w7 ⟨rfl,hb7⟩;have H7:Hid (AdS w w7 b st cl ss (.pointer p0) (.slice a0 ws.length c0) vK o):=H6.out.kept hb7;obtain ⟨q0,q1,q2,q3,q4,q5⟩:=boxCells H7.out.box;have c4:w7.cell? ⟨b,4,none⟩=some (.slice a0 ws.length c0):=H7.out.row.cell (j:=4) (by omega);clear hb7 H6 HRd)
  | (go_at_call 97;refine (HF.out _ H7.out.below).mono ?_;rintro e w8 ⟨rfl,hb8⟩;have H8:Hid (AdS w w8 b st cl ss (.pointer p0) (.slice a0 ws.length c0) vK o):=H7.out.kept hb8;obtain ⟨q0,q1,q2,q3,q4,q5⟩:=boxCells H8.out.box;clear hb8 H7 HF))
 go_ret
 exact ⟨rfl,H8.out.below⟩
theorem bAdd_take (b:Nat) (st cl ss:Int) (top vW vK:Value) (t:Tr) (ws:List Opn) (o:Opn) (w:World) (H:BookIs w b st cl ss top vW vK t ws) (hby:ByKey ws) (hT:OpT o) (hok:o.ok=true) (htb:(t.get o.key).isSome=false) (hwb:ws.any (fun x=>decide (x.key=o.key))=false) (hrd:rdy t o=true) (hfu:decide (120≤t.size)=false) :
  Calls Tryz.prog 51 #[.pointer (some ⟨b,2,none⟩),.agg #[.int .i64 o.kd,.int .u32 o.cl,.int .u32 o.ck,.int .u32 o.st,.int .u64 o.rf,.int .i32 o.ch]] w fun e w'=>e=.returned (.int .i64 0)∧TakeP b st cl ss vK vW (takeL ws.length (t.with o (rkOf o.key)) ws) w w':=by
 have HBk:=hidD H
 obtain ⟨p0,rfl⟩:=H.tree.ptr
 obtain ⟨a0,c0,rfl⟩:=ownO_form H.own
 have hbl:=H.row.lt
 have HT:=hidD hT
 have HBY:=hidD hby
 have H0:Hid (AdS w (w.alloc (.cells #[.int .i64 o.kd,.int .u32 o.cl,.int .u32 o.ck,.int .u32 o.st,.int .u64 o.rf,.int .i32 o.ch] 43)) b st cl ss (.pointer p0) (.slice a0 ws.length c0) vK o):=AdS.new w o H.row
 have HR:Hid (Calls Tryz.prog 92 #[.agg #[.int .i64 o.kd,.int .u32 o.cl,.int .u32 o.ck,.int .u32 o.st,.int .u64 o.rf,.int .i32 o.ch]] (w.alloc (.cells #[.int .i64 o.kd,.int .u32 o.cl,.int .u32 o.ck,.int .u32 o.st,.int .u64 o.rf,.int .i32 o.ch] 43)) fun e w'=>e=.returned .nilIface∧Below (w.alloc (.cells #[.int .i64 o.kd,.int .u32 o.cl,.int .u32 o.ck,.int .u32 o.st,.int .u64 o.rf,.int .i32 o.ch] 43)).heap.size (w.alloc (.cells #[.int .i64 o.kd,.int .u32 o.cl,.int .u32 o.ck,.int .u32 o.st,.int .u64 o.rf,.int .i32 o.ch] 43)) w'):=(rightOp_ref _ _ _ _ _ _ hT.cl hT.ck hT.rf.1 hT.rf.2 _ (H.below (below1' _ _)).env.sents).mono fun e w' ⟨x,e1,e2,_,e4⟩=>⟨by rw [e1,e2 hok],e4⟩
 have HG:Hid (∀ W,Below w.heap.size w W→Calls Tryz.prog 94 #[.agg #[.pointer p0],.int .u64 (o.cl*1048576+o.ck)] W fun e w'=>(∃ x:Opn,e=.returned (.tuple #[.agg #[.int .i64 x.kd,.int .u32 x.cl,.int .u32 x.ck,.int .u32 x.st,.int .u64 x.rf,.int .i32 x.ch],.bool false]))∧Below W.heap.size W w'):=fun W hW=>(sGet_any _ t _ W (HBk.out.tree.below hW) HBk.out.typ).mono fun e w' ⟨e1,e2⟩=>⟨⟨getO (t.get o.key),by rw [e1,getV_eq];show _=Ending.returned (.tuple #[_,.bool false]);rw [← htb];rfl⟩,e2⟩
 have HWt:Hid (∀ W,Below w.heap.size w W→Calls Tryz.prog 95 #[.pointer (some ⟨b,2,none⟩),.int .u64 (o.cl*1048576+o.ck)] W fun e w'=>(∃ i:Nat,BsP (fun x=>cmpI x.key o.key) ws i∧e=.returned (.tuple #[.int .i64 i,.bool false]))∧Below W.heap.size W w'):=fun W hW=>(waitsAt_any b st cl ss _ vK a0 c0 ws _ W (HBk.out.below hW).row (OwnO.is (HBk.out.below hW).own) (by have:=HBk.out.wlen;omega) HBY.out HBk.out.wtyp).mono fun e w' ⟨⟨i,e1,e2⟩,e3⟩=>⟨⟨i,e1,by rw [e2,← hwb,← bsF_any (k:=o.key) e1 HBY.out];rfl⟩,e3⟩
 have HRd:Hid (∀ W,Below w.heap.size w W→Calls Tryz.prog 96 #[.pointer (some ⟨b,2,none⟩),.agg #[.int .i64 o.kd,.int .u32 o.cl,.int .u32 o.ck,.int .u32 o.st,.int .u64 o.rf,.int .i32 o.ch]] W fun e w'=>e=.returned (.bool true)∧Below W.heap.size W w'):=fun W hW=>by
  have:=isReady_any b st cl ss _ _ vK t o W (HBk.out.below hW).row (HBk.out.below hW).tree HBk.out.typ ⟨HT.out.cl,HT.out.ck⟩
  rwa [hrd] at this
 have HF:Hid (∀ W,Below w.heap.size w W→Calls Tryz.prog 97 #[.pointer (some ⟨b,2,none⟩)] W fun e w'=>e=.returned (.bool false)∧Below W.heap.size W w'):=fun W hW=>by
  have:=isFull_any b st cl ss _ _ vK t W (HBk.out.below hW).row (HBk.out.below hW).tree (by have:=HBk.out.size;omega)
  rwa [hfu] at this
 have HSZ:Hid (t.size<100000):=by have:=of_decide_eq_false hfu;show t.size<100000;omega
 clear htb hwb hrd hfu
 clear H hby hT hok
 go_enter Tryz.func51,Tryz.ntmps51
 go_wp2_with (first
  | (go_at_call 92;refine HR.out.mono ?_;rintro e w1 ⟨rfl,hb1⟩;have H1:Hid (AdS w w1 b st cl ss (.pointer p0) (.slice a0 ws.length c0) vK o):=H0.out.kept hb1;obtain ⟨q0,q1,q2,q3,q4,q5⟩:=boxCells H1.out.box;have c3:=H1.out.row.cell (j:=3) (by omega);clear hb1 H0 HR)
  | (go_at_call 59;refine (number_nil _).mono ?_;rintro e w2 ⟨rfl,hw2⟩;obtain rfl:=hw2.symm)
  | (go_at_call 93;refine (pKeyOf_any _ _ _ _ _ _ HT.out.cl HT.out.ck _).mono ?_;rintro e w3 ⟨rfl,hb3⟩;have H3:Hid (AdS w w3 b st cl ss (.pointer p0) (.slice a0 ws.length c0) vK o):=H1.out.kept hb3;have c3:w3.cell? ⟨b,3,none⟩=some (.pointer p0):=H3.out.row.cell (j:=3) (by omega);clear q0 q1 q2 q3 q4 q5 hb3 H1)
  | (go_at_call 94;refine (HG.out _ H3.out.below).mono ?_;rintro e w4 ⟨⟨x,rfl⟩,hb4⟩;have H4:Hid (AdS w w4 b st cl ss (.pointer p0) (.slice a0 ws.length c0) vK o):=H3.out.kept hb4;have R4:RowIs (w4.alloc (.cells #[.int .i64 0,.int .u32 0,.int .u32 0,.int .u32 0,.int .u64 0,.int .i32 0] 43)) w4.heap.size 43 6 (opV o0):=RowIs.last (n:=6) (f:=opV o0) (cs:=#[.int .i64 0,.int .u32 0,.int .u32 0,.int .u32 0,.int .u64 0,.int .i32 0]) rfl rfl;clear hb4 H3 c3 HG)
  | (refine wpList_store_row rfl 43 (.tmp 7) (.tmp 26) rfl w4.heap.size (rowOf 6 (opV x)) rfl rfl _ _ R4 (by rw [rowOf_size];exact infoOp6) (by rw [rowOf_size,rowOf_size]) (opV_one _) ?_;have H5:Hid (AdS w ((w4.alloc (.cells #[.int .i64 0,.int .u32 0,.int .u32 0,.int .u32 0,.int .u64 0,.int .i32 0] 43)).setRow w4.heap.size (rowOf 6 (opV x))) b st cl ss (.pointer p0) (.slice a0 ws.length c0) vK o):=(H4.out.kept (below1' _ _)).put H4.out.over hbl _;clear R4 H4;generalize World.setRow _ _ _=w5 at H5 ⊢)
  | (go_at_call 95;refine (HWt.out _ H5.out.below).mono ?_;rintro e w6 ⟨⟨i,hbp,rfl⟩,hb6⟩;have H6:Hid (AdS w w6 b st cl ss (.pointer p0) (.slice a0 ws.length c0) vK o):=H5.out.kept hb6;have HP:=hidD hbp;obtain ⟨q0,q1,q2,q3,q4,q5⟩:=boxCells H6.out.box;have c4:w6.cell? ⟨b,4,none⟩=some (.slice a0 ws.length c0):=H6.out.row.cell (j:=4) (by omega);clear hb6 hbp H5 HWt)
  | (go_at_call 96;refine (HRd.out _ H6.out.below).mono ?_;rintro e w7 ⟨rfl,hb7⟩;have H7:Hid (AdS w w7 b st cl ss (.pointer p0) (.slice a0 ws.length c0) vK o):=H6.out.kept hb7;obtain ⟨q0,q1,q2,q3,q4,q5⟩:=boxCells H7.out.box;have c4:w7.cell? ⟨b,4,none⟩=some (.slice a0 ws.length c0):=H7.out.row.cell (j:=4) (by omega);clear hb7 H6 HRd)
  | (go_at_call 97;refine (HF.out _ H7.out.below).mono ?_;rintro e w8 ⟨rfl,hb8⟩;have H8:Hid (AdS w w8 b st cl ss (.pointer p0) (.slice a0 ws.length c0) vK o):=H7.out.kept hb8;obtain ⟨q0,q1,q2,q3,q4,q5⟩:=boxCells H8.out.box;clear hb8 H7 HF)
  | (go_at_call 98;refine (take_any b st cl ss _ _ vK t ws o _ (HBk.out.below H8.out.below) ⟨HT.out.cl,HT.out.ck⟩ HSZ.out).mono ?_;rintro e w9 ⟨rfl,tp9,v9,B9,e9,k9⟩;have H9:Hid (TakeP b st cl ss vK (.slice a0 ws.length c0) (takeL ws.length (t.with o (rkOf o.key)) ws) w w9):=⟨tp9,v9,B9,e9,(But.below H8.out.below).trans k9⟩;clear B9 e9 k9))
 go_ret
 exact ⟨rfl,H9.out⟩
theorem bAdd_many (b:Nat) (st cl ss:Int) (top vW vK:Value) (t:Tr) (ws:List Opn) (o:Opn) (w:World) (H:BookIs w b st cl ss top vW vK t ws) (hby:ByKey ws) (hT:OpT o) (hok:o.ok=true) (htb:(t.get o.key).isSome=false) (hwb:ws.any (fun x=>decide (x.key=o.key))=false) (hrd:rdy t o=false) (hmw:12≤ws.length) :
  Calls Tryz.prog 51 #[.pointer (some ⟨b,2,none⟩),.agg #[.int .i64 o.kd,.int .u32 o.cl,.int .u32 o.ck,.int .u32 o.st,.int .u64 o.rf,.int .i32 o.ch]] w fun e w'=>e=.returned (.int .i64 7)∧Below w.heap.size w w':=by
 have HBk:=hidD H
 obtain ⟨p0,rfl⟩:=H.tree.ptr
 obtain ⟨a0,c0,rfl⟩:=ownO_form H.own
 have hbl:=H.row.lt
 have HT:=hidD hT
 have HBY:=hidD hby
 have H0:Hid (AdS w (w.alloc (.cells #[.int .i64 o.kd,.int .u32 o.cl,.int .u32 o.ck,.int .u32 o.st,.int .u64 o.rf,.int .i32 o.ch] 43)) b st cl ss (.pointer p0) (.slice a0 ws.length c0) vK o):=AdS.new w o H.row
 have HR:Hid (Calls Tryz.prog 92 #[.agg #[.int .i64 o.kd,.int .u32 o.cl,.int .u32 o.ck,.int .u32 o.st,.int .u64 o.rf,.int .i32 o.ch]] (w.alloc (.cells #[.int .i64 o.kd,.int .u32 o.cl,.int .u32 o.ck,.int .u32 o.st,.int .u64 o.rf,.int .i32 o.ch] 43)) fun e w'=>e=.returned .nilIface∧Below (w.alloc (.cells #[.int .i64 o.kd,.int .u32 o.cl,.int .u32 o.ck,.int .u32 o.st,.int .u64 o.rf,.int .i32 o.ch] 43)).heap.size (w.alloc (.cells #[.int .i64 o.kd,.int .u32 o.cl,.int .u32 o.ck,.int .u32 o.st,.int .u64 o.rf,.int .i32 o.ch] 43)) w'):=(rightOp_ref _ _ _ _ _ _ hT.cl hT.ck hT.rf.1 hT.rf.2 _ (H.below (below1' _ _)).env.sents).mono fun e w' ⟨x,e1,e2,_,e4⟩=>⟨by rw [e1,e2 hok],e4⟩
 have HG:Hid (∀ W,Below w.heap.size w W→Calls Tryz.prog 94 #[.agg #[.pointer p0],.int .u64 (o.cl*1048576+o.ck)] W fun e w'=>(∃ x:Opn,e=.returned (.tuple #[.agg #[.int .i64 x.kd,.int .u32 x.cl,.int .u32 x.ck,.int .u32 x.st,.int .u64 x.rf,.int .i32 x.ch],.bool false]))∧Below W.heap.size W w'):=fun W hW=>(sGet_any _ t _ W (HBk.out.tree.below hW) HBk.out.typ).mono fun e w' ⟨e1,e2⟩=>⟨⟨getO (t.get o.key),by rw [e1,getV_eq];show _=Ending.returned (.tuple #[_,.bool false]);rw [← htb];rfl⟩,e2⟩
 have HWt:Hid (∀ W,Below w.heap.size w W→Calls Tryz.prog 95 #[.pointer (some ⟨b,2,none⟩),.int .u64 (o.cl*1048576+o.ck)] W fun e w'=>(∃ i:Nat,BsP (fun x=>cmpI x.key o.key) ws i∧e=.returned (.tuple #[.int .i64 i,.bool false]))∧Below W.heap.size W w'):=fun W hW=>(waitsAt_any b st cl ss _ vK a0 c0 ws _ W (HBk.out.below hW).row (OwnO.is (HBk.out.below hW).own) (by have:=HBk.out.wlen;omega) HBY.out HBk.out.wtyp).mono fun e w' ⟨⟨i,e1,e2⟩,e3⟩=>⟨⟨i,e1,by rw [e2,← hwb,← bsF_any (k:=o.key) e1 HBY.out];rfl⟩,e3⟩
 have HRd:Hid (∀ W,Below w.heap.size w W→Calls Tryz.prog 96 #[.pointer (some ⟨b,2,none⟩),.agg #[.int .i64 o.kd,.int .u32 o.cl,.int .u32 o.ck,.int .u32 o.st,.int .u64 o.rf,.int .i32 o.ch]] W fun e w'=>e=.returned (.bool false)∧Below W.heap.size W w'):=fun W hW=>by
  have:=isReady_any b st cl ss _ _ vK t o W (HBk.out.below hW).row (HBk.out.below hW).tree HBk.out.typ ⟨HT.out.cl,HT.out.ck⟩
  rwa [hrd] at this
 clear htb hwb hrd
 clear H hby hT hok
 go_enter Tryz.func51,Tryz.ntmps51
 go_wp2_with (first
  | (go_at_call 92;refine HR.out.mono ?_;rintro e w1 ⟨rfl,hb1⟩;have H1:Hid (AdS w w1 b st cl ss (.pointer p0) (.slice a0 ws.length c0) vK o):=H0.out.kept hb1;obtain ⟨q0,q1,q2,q3,q4,q5⟩:=boxCells H1.out.box;have c3:=H1.out.row.cell (j:=3) (by omega);clear hb1 H0 HR)
  | (go_at_call 59;refine (number_nil _).mono ?_;rintro e w2 ⟨rfl,hw2⟩;obtain rfl:=hw2.symm)
  | (go_at_call 93;refine (pKeyOf_any _ _ _ _ _ _ HT.out.cl HT.out.ck _).mono ?_;rintro e w3 ⟨rfl,hb3⟩;have H3:Hid (AdS w w3 b st cl ss (.pointer p0) (.slice a0 ws.length c0) vK o):=H1.out.kept hb3;have c3:w3.cell? ⟨b,3,none⟩=some (.pointer p0):=H3.out.row.cell (j:=3) (by omega);clear q0 q1 q2 q3 q4 q5 hb3 H1)
  | (go_at_call 94;refine (HG.out _ H3.out.below).mono ?_;rintro e w4 ⟨⟨x,rfl⟩,hb4⟩;have H4:Hid (AdS w w4 b st cl ss (.pointer p0) (.slice a0 ws.length c0) vK o):=H3.out.kept hb4;have R4:RowIs (w4.alloc (.cells #[.int .i64 0,.int .u32 0,.int .u32 0,.int .u32 0,.int .u64 0,.int .i32 0] 43)) w4.heap.size 43 6 (opV o0):=RowIs.last (n:=6) (f:=opV o0) (cs:=#[.int .i64 0,.int .u32 0,.int .u32 0,.int .u32 0,.int .u64 0,.int .i32 0]) rfl rfl;clear hb4 H3 c3 HG)
  | (refine wpList_store_row rfl 43 (.tmp 7) (.tmp 26) rfl w4.heap.size (rowOf 6 (opV x)) rfl rfl _ _ R4 (by rw [rowOf_size];exact infoOp6) (by rw [rowOf_size,rowOf_size]) (opV_one _) ?_;have H5:Hid (AdS w ((w4.alloc (.cells #[.int .i64 0,.int .u32 0,.int .u32 0,.int .u32 0,.int .u64 0,.int .i32 0] 43)).setRow w4.heap.size (rowOf 6 (opV x))) b st cl ss (.pointer p0) (.slice a0 ws.length c0) vK o):=(H4.out.kept (below1' _ _)).put H4.out.over hbl _;clear R4 H4;generalize World.setRow _ _ _=w5 at H5 ⊢)
  | (go_at_call 95;refine (HWt.out _ H5.out.below).mono ?_;rintro e w6 ⟨⟨i,hbp,rfl⟩,hb6⟩;have H6:Hid (AdS w w6 b st cl ss (.pointer p0) (.slice a0 ws.length c0) vK o):=H5.out.kept hb6;have HP:=hidD hbp;obtain ⟨q0,q1,q2,q3,q4,q5⟩:=boxCells H6.out.box;have c4:w6.cell? ⟨b,4,none⟩=some (.slice a0 ws.length c0):=H6.out.row.cell (j:=4) (by omega);clear hb6 hbp H5 HWt)
  | (go_at_call 96;refine (HRd.out _ H6.out.below).mono ?_;rintro e w7 ⟨rfl,hb7⟩;have H7:Hid (AdS w w7 b st cl ss (.pointer p0) (.slice a0 ws.length c0) vK o):=H6.out.kept hb7;obtain ⟨q0,q1,q2,q3,q4,q5⟩:=boxCells H7.out.box;have c4:w7.cell? ⟨b,4,none⟩=some (.slice a0 ws.length c0):=H7.out.row.cell (j:=4) (by omega);clear hb7 H6 HRd))
 go_ret
 exact ⟨rfl,H7.out.below⟩
structure AdT (w W:World) (b:Nat) (st cl ss:Int) (top vK:Value) (o:Opn):Prop where
 box:RowIs W w.heap.size 43 6 (opV o)
 row:∃ v,RowIs W b 118 7 (rep7 st cl top v ss vK)
theorem AdT.kept {w W W2:World} {b:Nat} {st cl ss:Int} {top vK:Value} {o:Opn} (h:AdT w W b st cl ss top vK o) (hb:Below W.heap.size W W2):AdT w W2 b st cl ss top vK o:=⟨h.box.below hb h.box.lt,h.row.elim fun v r=>⟨v,r.below hb r.lt⟩⟩
def AddP (b:Nat) (st cl ss:Int) (vK vW:Value) (R:Tr×List Opn) (w w':World):Prop:=∃ top v',BookIs w' b st cl ss top v' vK R.1 R.2∧(v'.ownBlock=vW.ownBlock∨∃ g,v'.ownBlock=some g∧w.heap.size≤g)∧But (fun x=>x=b∨vW.ownBlock=some x) w w'
theorem bAdd_wait (b:Nat) (st cl ss:Int) (top vW vK:Value) (t:Tr) (ws:List Opn) (o:Opn) (w:World) (H:BookIs w b st cl ss top vW vK t ws) (hby:ByKey ws) (hT:OpT o) (hok:o.ok=true) (htb:(t.get o.key).isSome=false) (hwb:ws.any (fun x=>decide (x.key=o.key))=false) (hrd:rdy t o=false) (hmw:¬ 12≤ws.length) :
  Calls Tryz.prog 51 #[.pointer (some ⟨b,2,none⟩),.agg #[.int .i64 o.kd,.int .u32 o.cl,.int .u32 o.ck,.int .u32 o.st,.int .u64 o.rf,.int .i32 o.ch]] w fun e w'=>e=.returned (.int .i64 6)∧∃ i,BsP (fun x=>cmpI x.key o.key) ws i∧AddP b st cl ss vK vW (t,ws.insertIdx i o) w w':=by
 have HBk:=hidD H
 obtain ⟨p0,rfl⟩:=H.tree.ptr
 obtain ⟨a0,c0,rfl⟩:=ownO_form H.own
 have hbl:=H.row.lt
 have HT:=hidD hT
 have HBY:=hidD hby
 have H0:Hid (AdS w (w.alloc (.cells #[.int .i64 o.kd,.int .u32 o.cl,.int .u32 o.ck,.int .u32 o.st,.int .u64 o.rf,.int .i32 o.ch] 43)) b st cl ss (.pointer p0) (.slice a0 ws.length c0) vK o):=AdS.new w o H.row
 have HR:Hid (Calls Tryz.prog 92 #[.agg #[.int .i64 o.kd,.int .u32 o.cl,.int .u32 o.ck,.int .u32 o.st,.int .u64 o.rf,.int .i32 o.ch]] (w.alloc (.cells #[.int .i64 o.kd,.int .u32 o.cl,.int .u32 o.ck,.int .u32 o.st,.int .u64 o.rf,.int .i32 o.ch] 43)) fun e w'=>e=.returned .nilIface∧Below (w.alloc (.cells #[.int .i64 o.kd,.int .u32 o.cl,.int .u32 o.ck,.int .u32 o.st,.int .u64 o.rf,.int .i32 o.ch] 43)).heap.size (w.alloc (.cells #[.int .i64 o.kd,.int .u32 o.cl,.int .u32 o.ck,.int .u32 o.st,.int .u64 o.rf,.int .i32 o.ch] 43)) w'):=(rightOp_ref _ _ _ _ _ _ hT.cl hT.ck hT.rf.1 hT.rf.2 _ (H.below (below1' _ _)).env.sents).mono fun e w' ⟨x,e1,e2,_,e4⟩=>⟨by rw [e1,e2 hok],e4⟩
 have HG:Hid (∀ W,Below w.heap.size w W→Calls Tryz.prog 94 #[.agg #[.pointer p0],.int .u64 (o.cl*1048576+o.ck)] W fun e w'=>(∃ x:Opn,e=.returned (.tuple #[.agg #[.int .i64 x.kd,.int .u32 x.cl,.int .u32 x.ck,.int .u32 x.st,.int .u64 x.rf,.int .i32 x.ch],.bool false]))∧Below W.heap.size W w'):=fun W hW=>(sGet_any _ t _ W (HBk.out.tree.below hW) HBk.out.typ).mono fun e w' ⟨e1,e2⟩=>⟨⟨getO (t.get o.key),by rw [e1,getV_eq];show _=Ending.returned (.tuple #[_,.bool false]);rw [← htb];rfl⟩,e2⟩
 have HWt:Hid (∀ W,Below w.heap.size w W→Calls Tryz.prog 95 #[.pointer (some ⟨b,2,none⟩),.int .u64 (o.cl*1048576+o.ck)] W fun e w'=>(∃ i:Nat,BsP (fun x=>cmpI x.key o.key) ws i∧e=.returned (.tuple #[.int .i64 i,.bool false]))∧Below W.heap.size W w'):=fun W hW=>(waitsAt_any b st cl ss _ vK a0 c0 ws _ W (HBk.out.below hW).row (OwnO.is (HBk.out.below hW).own) (by have:=HBk.out.wlen;omega) HBY.out HBk.out.wtyp).mono fun e w' ⟨⟨i,e1,e2⟩,e3⟩=>⟨⟨i,e1,by rw [e2,← hwb,← bsF_any (k:=o.key) e1 HBY.out];rfl⟩,e3⟩
 have HRd:Hid (∀ W,Below w.heap.size w W→Calls Tryz.prog 96 #[.pointer (some ⟨b,2,none⟩),.agg #[.int .i64 o.kd,.int .u32 o.cl,.int .u32 o.ck,.int .u32 o.st,.int .u64 o.rf,.int .i32 o.ch]] W fun e w'=>e=.returned (.bool false)∧Below W.heap.size W w'):=fun W hW=>by
  have:=isReady_any b st cl ss _ _ vK t o W (HBk.out.below hW).row (HBk.out.below hW).tree HBk.out.typ ⟨HT.out.cl,HT.out.ck⟩
  rwa [hrd] at this
 have HVB:Hid (∀ x,(Value.slice a0 ws.length c0).ownBlock=some x→x<w.heap.size):=fun x hx=>(World.ownsRow.lt H.own x hx).2
 have hwl:=H.wlen
 obtain ⟨io,oi,oz0,oz1,oz2⟩:=info_parts infoOpB
 have HI:=hidD (And.intro oi (And.intro oz0 oz1))
 clear oi oz0 oz1 oz2 htb hwb hrd
 clear H hby hT hok
 go_enter Tryz.func51,Tryz.ntmps51
 go_wp2_with (first
  | (go_at_call 92;refine HR.out.mono ?_;rintro e w1 ⟨rfl,hb1⟩;have H1:Hid (AdS w w1 b st cl ss (.pointer p0) (.slice a0 ws.length c0) vK o):=H0.out.kept hb1;obtain ⟨q0,q1,q2,q3,q4,q5⟩:=boxCells H1.out.box;have c3:=H1.out.row.cell (j:=3) (by omega);clear hb1 H0 HR)
  | (go_at_call 59;refine (number_nil _).mono ?_;rintro e w2 ⟨rfl,hw2⟩;obtain rfl:=hw2.symm)
  | (go_at_call 93;refine (pKeyOf_any _ _ _ _ _ _ HT.out.cl HT.out.ck _).mono ?_;rintro e w3 ⟨rfl,hb3⟩;have H3:Hid (AdS w w3 b st cl ss (.pointer p0) (.slice a0 ws.length c0) vK o):=H1.out.kept hb3;have c3:w3.cell? ⟨b,3,none⟩=some (.pointer p0):=H3.out.row.cell (j:=3) (by omega);clear q0 q1 q2 q3 q4 q5 hb3 H1)
  | (go_at_call 94;refine (HG.out _ H3.out.below).mono ?_;rintro e w4 ⟨⟨x,rfl⟩,hb4⟩;have H4:Hid (AdS w w4 b st cl ss (.pointer p0) (.slice a0 ws.length c0) vK o):=H3.out.kept hb4;have R4:RowIs (w4.alloc (.cells #[.int .i64 0,.int .u32 0,.int .u32 0,.int .u32 0,.int .u64 0,.int .i32 0] 43)) w4.heap.size 43 6 (opV o0):=RowIs.last (n:=6) (f:=opV o0) (cs:=#[.int .i64 0,.int .u32 0,.int .u32 0,.int .u32 0,.int .u64 0,.int .i32 0]) rfl rfl;clear hb4 H3 c3 HG)
  | (refine wpList_store_row rfl 43 (.tmp 7) (.tmp 26) rfl w4.heap.size (rowOf 6 (opV x)) rfl rfl _ _ R4 (by rw [rowOf_size];exact infoOp6) (by rw [rowOf_size,rowOf_size]) (opV_one _) ?_;have H5:Hid (AdS w ((w4.alloc (.cells #[.int .i64 0,.int .u32 0,.int .u32 0,.int .u32 0,.int .u64 0,.int .i32 0] 43)).setRow w4.heap.size (rowOf 6 (opV x))) b st cl ss (.pointer p0) (.slice a0 ws.length c0) vK o):=(H4.out.kept (below1' _ _)).put H4.out.over hbl _;clear R4 H4;generalize World.setRow _ _ _=w5 at H5 ⊢)
  | (go_at_call 95;refine (HWt.out _ H5.out.below).mono ?_;rintro e w6 ⟨⟨i,hbp,rfl⟩,hb6⟩;have H6:Hid (AdS w w6 b st cl ss (.pointer p0) (.slice a0 ws.length c0) vK o):=H5.out.kept hb6;have HP:=hidD hbp;obtain ⟨q0,q1,q2,q3,q4,q5⟩:=boxCells H6.out.box;have c4:w6.cell? ⟨b,4,none⟩=some (.slice a0 ws.length c0):=H6.out.row.cell (j:=4) (by omega);clear hb6 hbp H5 HWt)
  | (go_at_call 96;refine (HRd.out _ H6.out.below).mono ?_;rintro e w7 ⟨rfl,hb7⟩;have H7:Hid (AdS w w7 b st cl ss (.pointer p0) (.slice a0 ws.length c0) vK o):=H6.out.kept hb7;obtain ⟨q0,q1,q2,q3,q4,q5⟩:=boxCells H7.out.box;have c4:w7.cell? ⟨b,4,none⟩=some (.slice a0 ws.length c0):=H7.out.row.cell (j:=4) (by omega);clear hb7 H6 HRd))
 have HD:Hid (AdS w w7.drew b st cl ss (.pointer p0) (.slice a0 ws.length c0) vK o):=H7.out.kept (Below.refl _ _).drew
 refine wp_region_held_drew (S:=fun W=>AdT w W b st cl ss (.pointer p0) vK o) (by kernel_rfl) (⟨HD.out.box,_,HD.out.row⟩:AdT w _ b st cl ss (.pointer p0) vK o) (fun hHeld=>?_)
 clear H7 c4 q0 q1 q2 q3 q4 q5
 generalize w7.drew=wD at HD hHeld ⊢
 have HIn:Hid (Calls Tryz.prog 99 #[.slice a0 ws.length c0,.int .i64 i,.slice (some ⟨wD.heap.size,0,none⟩) 1 1] (wD.alloc (.cells (opCs [o]).toArray 43)) fun e w'=>InsP (wD.alloc (.cells (opCs [o]).toArray 43)) i (.slice a0 ws.length c0) ws o e w'):=insr_any _ i wD.heap.size 43 ws o _ (HBk.out.below (HD.out.below.alloc HD.out.below.size (.cells (opCs [o]).toArray 43))).own HP.out.le (by omega) (heap_alloc_new _ _) (fun e=>by have:=HVB.out _ e;have:=HD.out.over;omega)
 refine tk0 0 55 ?_
 refine tk0 1 56 ?_
 refine tk0 2 57 ?_
 refine tk0 3 58 ?_
 refine tk0 5 60 ?_
 refine tkf 6 61 (fun _ h=>boxCells h.box) ?_
 refine rd2 4 (some 59) 7 (some 62) rfl rfl (fun K hK=>?_) (fun K hK=>?_)
 ·have c4:=(HD.out.row).cell (j:=4) (by omega)
  go_simp
  refine hK.out _ _ hHeld fun hHeld=>?_
  clear hK K c4
  refine rd 7 (some 62) rfl (fun K hK=>?_)
  rw [if_pos (by rfl)]
  refine wp_buildSlice 32 43 1 _ rfl (opCs [o]).toArray io _ Tryz.underlying32 HI.out.1 HI.out.2.1 (by rw [HI.out.2.2];decide) (by rw [HI.out.2.2];decide) (by rw [HI.out.2.2];kernel_rfl) ?_
  simp only [Act.put,ls1,ls2,ls3]
  refine hK.out _ _ (hHeld.kept (below1' _ _)) (fun hHeld=>?_)
  clear hK K
  refine rd 8 (some 63) rfl (fun K hK=>?_)
  go_simp
  refine (HIn.out).mono ?_
  rintro e w9 ⟨v9,rfl,ho9,hv9,hb9⟩
  have R9:RowIs w9 b 118 7 (rep7 st cl (.pointer p0) (.slice a0 ws.length c0) ss vK):=(HD.out.row.alloc (.cells (opCs [o]).toArray 43)).but hb9 (fun e=>HBk.out.apart e rfl)
  have X9:RowIs w9 w.heap.size 43 6 (opV o):=(HD.out.box.alloc (.cells (opCs [o]).toArray 43)).but hb9 (fun e=>Nat.lt_irrefl _ (HVB.out _ e))
  have H9:=hidD (And.intro ho9 (And.intro hv9 (And.intro hb9 R9)))
  clear ho9 hv9 hb9
  refine hK.out _ _ (⟨X9,_,R9⟩:AdT w w9 b st cl ss (.pointer p0) vK o) (fun hHeld=>?_)
  clear hK K R9 X9
  refine tk0 9 64 ?_
  refine tk0 10 65 ?_
  refine rd 11 none rfl (fun K hK=>?_)
  have c9:=H9.out.2.2.2.cell (j:=4) (by omega)
  have f9:=H9.out.2.2.2.free 4
  obtain ⟨a9,d9,rfl⟩:=ownO_form H9.out.1
  go_simp
  refine hK.out _ _ (⟨hHeld.box.setOther (a:=⟨b,4,none⟩) (fun e=>by have:b=w.heap.size:=e;omega) _,_,rep_wait H9.out.2.2.2 _⟩:AdT w _ b st cl ss (.pointer p0) vK o) (fun hHeld=>?_)
  clear hK K c9 f9
  refine wdn ?_
  clear hHeld
  go_wp2_with fail
  go_ret
  refine ⟨rfl,i,HP.out,_,_,HBk.out.came H9.out.1 (H9.out.2.1.via id fun ⟨g,e1,e2⟩=>⟨g,e1,Nat.le_trans ((HD.out.below.alloc HD.out.below.size (.cells (opCs [o]).toArray 43)).size) e2⟩) ((But.below (HD.out.below.alloc HD.out.below.size (.cells (opCs [o]).toArray 43))).trans H9.out.2.2.1) ⟨HT.out.cl,HT.out.ck⟩ (by omega),H9.out.2.1.via id fun ⟨g,e1,e2⟩=>⟨g,e1,Nat.le_trans ((HD.out.below.alloc HD.out.below.size (.cells (opCs [o]).toArray 43)).size) e2⟩,(((But.below (HD.out.below.alloc HD.out.below.size (.cells (opCs [o]).toArray 43))).trans H9.out.2.2.1).mono fun x e=>Or.inr e).trans ((But.set b 4 _).mono fun x e=>Or.inl e)⟩
 ·rw [if_pos (by rfl)]
  refine wp_buildSlice 32 43 1 _ rfl (opCs [o]).toArray io _ Tryz.underlying32 HI.out.1 HI.out.2.1 (by rw [HI.out.2.2];decide) (by rw [HI.out.2.2];decide) (by rw [HI.out.2.2];kernel_rfl) ?_
  simp only [Act.put,ls1,ls2,ls3]
  refine hK.out _ _ (hHeld.kept (below1' _ _)) (fun hHeld=>?_)
  clear hK K
  refine rd 4 (some 59) rfl (fun K hK=>?_)
  have c4:=(HD.out.row.alloc (.cells (opCs [o]).toArray 43)).cell (j:=4) (by omega)
  go_simp
  refine hK.out _ _ hHeld fun hHeld=>?_
  clear hK K c4
  refine rd 8 (some 63) rfl (fun K hK=>?_)
  go_simp
  refine (HIn.out).mono ?_
  rintro e w9 ⟨v9,rfl,ho9,hv9,hb9⟩
  have R9:RowIs w9 b 118 7 (rep7 st cl (.pointer p0) (.slice a0 ws.length c0) ss vK):=(HD.out.row.alloc (.cells (opCs [o]).toArray 43)).but hb9 (fun e=>HBk.out.apart e rfl)
  have X9:RowIs w9 w.heap.size 43 6 (opV o):=(HD.out.box.alloc (.cells (opCs [o]).toArray 43)).but hb9 (fun e=>Nat.lt_irrefl _ (HVB.out _ e))
  have H9:=hidD (And.intro ho9 (And.intro hv9 (And.intro hb9 R9)))
  clear ho9 hv9 hb9
  refine hK.out _ _ (⟨X9,_,R9⟩:AdT w w9 b st cl ss (.pointer p0) vK o) (fun hHeld=>?_)
  clear hK K R9 X9
  refine tk0 9 64 ?_
  refine tk0 10 65 ?_
  refine rd 11 none rfl (fun K hK=>?_)
  have c9:=H9.out.2.2.2.cell (j:=4) (by omega)
  have f9:=H9.out.2.2.2.free 4
  obtain ⟨a9,d9,rfl⟩:=ownO_form H9.out.1
  go_simp
  refine hK.out _ _ (⟨hHeld.box.setOther (a:=⟨b,4,none⟩) (fun e=>by have:b=w.heap.size:=e;omega) _,_,rep_wait H9.out.2.2.2 _⟩:AdT w _ b st cl ss (.pointer p0) vK o) (fun hHeld=>?_)
  clear hK K c9 f9
  refine wdn ?_
  clear hHeld
  go_wp2_with fail
  go_ret
  refine ⟨rfl,i,HP.out,_,_,HBk.out.came H9.out.1 (H9.out.2.1.via id fun ⟨g,e1,e2⟩=>⟨g,e1,Nat.le_trans ((HD.out.below.alloc HD.out.below.size (.cells (opCs [o]).toArray 43)).size) e2⟩) ((But.below (HD.out.below.alloc HD.out.below.size (.cells (opCs [o]).toArray 43))).trans H9.out.2.2.1) ⟨HT.out.cl,HT.out.ck⟩ (by omega),H9.out.2.1.via id fun ⟨g,e1,e2⟩=>⟨g,e1,Nat.le_trans ((HD.out.below.alloc HD.out.below.size (.cells (opCs [o]).toArray 43)).size) e2⟩,(((But.below (HD.out.below.alloc HD.out.below.size (.cells (opCs [o]).toArray 43))).trans H9.out.2.2.1).mono fun x e=>Or.inr e).trans ((But.set b 4 _).mono fun x e=>Or.inl e)⟩
theorem AddP.same {w w':World} {b:Nat} {st cl ss:Int} {top vW vK:Value} {t:Tr} {ws:List Opn} (h:BookIs w b st cl ss top vW vK t ws) (hb:Below w.heap.size w w'):AddP b st cl ss vK vW (t,ws) w w':=⟨top,vW,h.below hb,Or.inl rfl,But.below hb⟩
theorem TakeP.add {b:Nat} {st cl ss:Int} {vK vW:Value} {R:Tr×List Opn} {w w':World} (h:TakeP b st cl ss vK vW R w w'):AddP b st cl ss vK vW R w w':=by
 obtain ⟨tp,v,B,e,k⟩:=h
 exact ⟨tp,v,B,Or.inl e,k⟩
theorem bAdd_bad (b:Nat) (st cl ss:Int) (top vW vK:Value) (t:Tr) (ws:List Opn) (o:Opn) (w:World) (H:BookIs w b st cl ss top vW vK t ws) (hT:OpT o) (hok:o.ok=false) :
  Calls Tryz.prog 51 #[.pointer (some ⟨b,2,none⟩),.agg #[.int .i64 o.kd,.int .u32 o.cl,.int .u32 o.ck,.int .u32 o.st,.int .u64 o.rf,.int .i32 o.ch]] w fun e w'=>e=.returned (.int .i64 4)∧Below w.heap.size w w':=by
 have HE:=hidD (H.below (below1' w (.cells #[.int .i64 o.kd,.int .u32 o.cl,.int .u32 o.ck,.int .u32 o.st,.int .u64 o.rf,.int .i32 o.ch] 43))).env
 have HR:=hidD (rightOp_ref o.kd o.cl o.ck o.st o.rf o.ch hT.cl hT.ck hT.rf.1 hT.rf.2 _ HE.out.sents)
 have HO:Hid (okOp o.kd o.cl o.ck o.st o.rf o.ch=false):=hok
 clear H hT hok
 go_enter Tryz.func51,Tryz.ntmps51
 go_wp2_with (first
  | (go_at_call 92;refine HR.out.mono ?_;rintro e w1 ⟨x,rfl,-,hr,hb1⟩;have HX:=hidD (And.intro (hr HO.out) hb1);clear hr hb1)
  | (go_at_call 59;refine (number_ref 4 _ _ HX.out.1 (HE.out.below HX.out.2).handle).mono ?_;rintro e w2 ⟨rfl,hb2⟩))
 go_ret
 exact ⟨rfl,(below1' _ _).trans ((HX.out.2.trans (hb2.mono HX.out.2.size)).mono (by simp))⟩
theorem bAdd_any (b:Nat) (st cl ss:Int) (top vW vK:Value) (t:Tr) (ws:List Opn) (o:Opn) (w:World) (H:BookIs w b st cl ss top vW vK t ws) (hby:ByKey ws) (hT:OpT o) :
  Calls Tryz.prog 51 #[.pointer (some ⟨b,2,none⟩),.agg #[.int .i64 o.kd,.int .u32 o.cl,.int .u32 o.ck,.int .u32 o.st,.int .u64 o.rf,.int .i32 o.ch]] w fun e w'=>e=.returned (.int .i64 (addM t ws o).1)∧AddP b st cl ss vK vW (addM t ws o).2 w w':=by
 unfold addM
 cases hok:o.ok with
 | false=>
  rw [if_pos rfl]
  exact (bAdd_bad b st cl ss top vW vK t ws o w H hT hok).mono fun e w' ⟨h1,h2⟩=>⟨h1,AddP.same H h2⟩
 | true=>
  rw [if_neg (by decide)]
  cases hkn:((t.get o.key).isSome||ws.any (fun x=>decide (x.key=o.key))) with
  | true=>
   rw [if_pos rfl]
   exact (bAdd_known b st cl ss top vW vK t ws o w H hby hT hok _ _ rfl rfl hkn).mono fun e w' ⟨h1,h2⟩=>⟨h1,AddP.same H h2⟩
  | false=>
   rw [if_neg (by decide)]
   obtain ⟨k1,k2⟩:=Bool.or_eq_false_iff.1 hkn
   cases hrd:rdy t o with
   | true=>
    rw [if_pos rfl]
    by_cases hf:120≤t.size
    ·rw [if_pos hf]
     exact (bAdd_full b st cl ss top vW vK t ws o w H hby hT hok k1 k2 hrd (decide_eq_true hf)).mono fun e w' ⟨h1,h2⟩=>⟨h1,AddP.same H h2⟩
    ·rw [if_neg hf]
     exact (bAdd_take b st cl ss top vW vK t ws o w H hby hT hok k1 k2 hrd (decide_eq_false hf)).mono fun e w' ⟨h1,h2⟩=>⟨h1,h2.add⟩
   | false=>
    rw [if_neg (by decide)]
    by_cases hf:12≤ws.length
    ·rw [if_pos hf]
     exact (bAdd_many b st cl ss top vW vK t ws o w H hby hT hok k1 k2 hrd hf).mono fun e w' ⟨h1,h2⟩=>⟨h1,AddP.same H h2⟩
    ·rw [if_neg hf]
     refine (bAdd_wait b st cl ss top vW vK t ws o w H hby hT hok k1 k2 hrd hf).mono ?_
     rintro e w' ⟨h1,i,hp,h2⟩
     rw [insIdx_putK hp rfl] at h2
     exact ⟨h1,h2⟩
theorem rAdd_any (b:Nat) (cl ss:Int) (top vW vK:Value) (t:Tr) (ws:List Opn) (o:Opn) (w:World) (H:BookIs w b 0 cl ss top vW vK t ws) (hby:ByKey ws) (hT:OpT o) :
  Calls Tryz.prog 21 #[.pointer (some ⟨b,0,none⟩),.agg #[.int .i64 o.kd,.int .u32 o.cl,.int .u32 o.ck,.int .u32 o.st,.int .u64 o.rf,.int .i32 o.ch]] w fun e w'=>e=.returned (.int .i64 (addM t ws o).1)∧AddP b 0 cl ss vK vW (addM t ws o).2 w w':=by
 have h:=H.row
 have hbl:=h.lt
 have HVB:Hid (∀ x,vW.ownBlock=some x→x<w.heap.size):=fun x hx=>(World.ownsRow.lt H.own x hx).2
 have a0:(w.alloc (.cells #[.int .i64 o.kd,.int .u32 o.cl,.int .u32 o.ck,.int .u32 o.st,.int .u64 o.rf,.int .i32 o.ch] 43)).cell? ⟨b,0,none⟩=some (.int .i32 0):=(h.alloc _).cell (j:=0) (by omega)
 have g0:=(h.alloc (.cells #[.int .i64 o.kd,.int .u32 o.cl,.int .u32 o.ck,.int .u32 o.st,.int .u64 o.rf,.int .i32 o.ch] 43)).free 0
 have hz:(w.setCell ⟨b,0,none⟩ (.int .i32 1)).heap.size=w.heap.size:=by simp [World.setCell]
 have b1:But (fun x=>x=b∨vW.ownBlock=some x) w ((w.setCell ⟨b,0,none⟩ (.int .i32 1)).alloc (.cells #[.int .i64 o.kd,.int .u32 o.cl,.int .u32 o.ck,.int .u32 o.st,.int .u64 o.rf,.int .i32 o.ch] 43)).drew:=(((But.set b 0 _).trans (But.below (below1' _ _))).trans (But.below (Below.refl _ _).drew)).mono fun x e=>Or.inl e
 have r1:RowIs ((w.setCell ⟨b,0,none⟩ (.int .i32 1)).alloc (.cells #[.int .i64 o.kd,.int .u32 o.cl,.int .u32 o.ck,.int .u32 o.st,.int .u64 o.rf,.int .i32 o.ch] 43)).drew w.heap.size 43 6 (opV o):=RowIs.last (w:=w.setCell ⟨b,0,none⟩ (.int .i32 1)) (n:=6) (f:=opV o) (cs:=#[.int .i64 o.kd,.int .u32 o.cl,.int .u32 o.ck,.int .u32 o.st,.int .u64 o.rf,.int .i32 o.ch]) hz.symm rfl
 have B1:BookIs ((w.setCell ⟨b,0,none⟩ (.int .i32 1)).alloc (.cells #[.int .i64 o.kd,.int .u32 o.cl,.int .u32 o.ck,.int .u32 o.st,.int .u64 o.rf,.int .i32 o.ch] 43)).drew b 1 cl ss top vW vK t ws:=(H.locked.below (below1' _ _)).below (Below.refl _ _).drew
 generalize hM:addM t ws o=M
 have HI:=hidD (bAdd_any b 1 cl ss top vW vK t ws o _ B1 hby hT)
 rw [hM] at HI
 have HL:=hidD b1
 have R1:=hidD r1
 have HX:Hid (∀ x,w.heap.size≤x→¬ (x=b∨vW.ownBlock=some x)):=fun x hx e=>by
  rcases e with e|e
  ·omega
  ·have:=HVB.out x e;omega
 clear h H hby hT b1 r1 B1 hM
 go_enter_defers Tryz.func21,Tryz.ntmps21
 go_wp2_with (go_at_call 49;refine (lock_free muLib ⟨b,0,none⟩ _ a0 g0).mono ?_;rintro e w' ⟨rfl,rfl⟩)
 refine wp_region_held_drew (S:=fun W=>RowIs W w.heap.size 43 6 (opV o)) (by kernel_rfl) R1.out (fun hHeld=>?_)
 generalize World.drew _=wD at HI HL R1 hHeld ⊢
 refine rd2 0 (some 12) 3 (some 15) rfl rfl (fun K hK=>?_) (fun K hK=>?_)
 ·go_simp
  refine hK.out _ _ hHeld fun hHeld=>?_
  clear hK K
  refine rd2 1 (some 13) 3 (some 15) rfl rfl (fun K hK=>?_) (fun K hK=>?_)
  ·go_simp
   refine hK.out _ _ hHeld fun hHeld=>?_
   clear hK K
   refine rd2 2 (some 14) 3 (some 15) rfl rfl (fun K hK=>?_) (fun K hK=>?_)
   ·go_simp
    refine hK.out _ _ hHeld fun hHeld=>?_
    clear hK K
    refine rd 3 (some 15) rfl (fun K hK=>?_)
    obtain ⟨q0,q1,q2,q3,q4,q5⟩:=boxCells hHeld
    go_simp
    refine hK.out _ _ hHeld fun hHeld=>?_
    clear hK K q0 q1 q2 q3 q4 q5
    refine rd 4 (some 16) rfl (fun K hK=>?_)
    go_simp
    refine HI.out.mono ?_
    rintro e w2 ⟨rfl,tp,v2,B2,e2,k2⟩
    have R2:RowIs w2 w.heap.size 43 6 (opV o):=hHeld.but k2 (HX.out _ (Nat.le_refl _))
    have H2:=hidD (And.intro B2 (And.intro e2 k2))
    clear B2 e2 k2
    refine hK.out _ _ R2 (fun hHeld=>?_)
    clear hK K R2
    refine rdg 5 (some 4) ?_
    refine wdn ?_
    clear hHeld
    go_wp2_with fail
    obtain ⟨B2,e2,k2⟩:=H2.out
    refine leaves_cons (f:=50) (args:=#[.pointer (some ⟨b,0,none⟩)]) (by simp) (by simp [go_sem]) ?_
    refine (unlock_deferred muLib ⟨b,0,none⟩ .returning _ (B2.row.cell (j:=0) (by omega)) (B2.row.free 0)).mono ?_
    rintro e u' w'' ⟨rfl,rfl,rfl⟩
    exact ⟨_,results_tmp rfl _ _ _,rfl,tp,v2,B2.free,e2.via id fun ⟨g,g1,g2⟩=>⟨g,g1,Nat.le_trans (HL.out.size) g2⟩,(HL.out.trans k2).trans ((But.set b 0 _).mono fun x e=>Or.inl e)⟩
   ·obtain ⟨q0,q1,q2,q3,q4,q5⟩:=boxCells hHeld
    go_simp
    refine hK.out _ _ hHeld fun hHeld=>?_
    clear hK K q0 q1 q2 q3 q4 q5
    refine rdg 2 (some 14) ?_
    refine rd 4 (some 16) rfl (fun K hK=>?_)
    go_simp
    refine HI.out.mono ?_
    rintro e w2 ⟨rfl,tp,v2,B2,e2,k2⟩
    have R2:RowIs w2 w.heap.size 43 6 (opV o):=hHeld.but k2 (HX.out _ (Nat.le_refl _))
    have H2:=hidD (And.intro B2 (And.intro e2 k2))
    clear B2 e2 k2
    refine hK.out _ _ R2 (fun hHeld=>?_)
    clear hK K R2
    refine rdg 5 (some 4) ?_
    refine wdn ?_
    clear hHeld
    go_wp2_with fail
    obtain ⟨B2,e2,k2⟩:=H2.out
    refine leaves_cons (f:=50) (args:=#[.pointer (some ⟨b,0,none⟩)]) (by simp) (by simp [go_sem]) ?_
    refine (unlock_deferred muLib ⟨b,0,none⟩ .returning _ (B2.row.cell (j:=0) (by omega)) (B2.row.free 0)).mono ?_
    rintro e u' w'' ⟨rfl,rfl,rfl⟩
    exact ⟨_,results_tmp rfl _ _ _,rfl,tp,v2,B2.free,e2.via id fun ⟨g,g1,g2⟩=>⟨g,g1,Nat.le_trans (HL.out.size) g2⟩,(HL.out.trans k2).trans ((But.set b 0 _).mono fun x e=>Or.inl e)⟩
  ·obtain ⟨q0,q1,q2,q3,q4,q5⟩:=boxCells hHeld
   go_simp
   refine hK.out _ _ hHeld fun hHeld=>?_
   clear hK K q0 q1 q2 q3 q4 q5
   refine rdg 1 (some 13) ?_
   refine rdg 2 (some 14) ?_
   refine rd 4 (some 16) rfl (fun K hK=>?_)
   go_simp
   refine HI.out.mono ?_
   rintro e w2 ⟨rfl,tp,v2,B2,e2,k2⟩
   have R2:RowIs w2 w.heap.size 43 6 (opV o):=hHeld.but k2 (HX.out _ (Nat.le_refl _))
   have H2:=hidD (And.intro B2 (And.intro e2 k2))
   clear B2 e2 k2
   refine hK.out _ _ R2 (fun hHeld=>?_)
   clear hK K R2
   refine rdg 5 (some 4) ?_
   refine wdn ?_
   clear hHeld
   go_wp2_with fail
   obtain ⟨B2,e2,k2⟩:=H2.out
   refine leaves_cons (f:=50) (args:=#[.pointer (some ⟨b,0,none⟩)]) (by simp) (by simp [go_sem]) ?_
   refine (unlock_deferred muLib ⟨b,0,none⟩ .returning _ (B2.row.cell (j:=0) (by omega)) (B2.row.free 0)).mono ?_
   rintro e u' w'' ⟨rfl,rfl,rfl⟩
   exact ⟨_,results_tmp rfl _ _ _,rfl,tp,v2,B2.free,e2.via id fun ⟨g,g1,g2⟩=>⟨g,g1,Nat.le_trans (HL.out.size) g2⟩,(HL.out.trans k2).trans ((But.set b 0 _).mono fun x e=>Or.inl e)⟩
 ·obtain ⟨q0,q1,q2,q3,q4,q5⟩:=boxCells hHeld
  go_simp
  refine hK.out _ _ hHeld fun hHeld=>?_
  clear hK K q0 q1 q2 q3 q4 q5
  refine rdg 0 (some 12) ?_
  refine rdg 1 (some 13) ?_
  refine rdg 2 (some 14) ?_
  refine rd 4 (some 16) rfl (fun K hK=>?_)
  go_simp
  refine HI.out.mono ?_
  rintro e w2 ⟨rfl,tp,v2,B2,e2,k2⟩
  have R2:RowIs w2 w.heap.size 43 6 (opV o):=hHeld.but k2 (HX.out _ (Nat.le_refl _))
  have H2:=hidD (And.intro B2 (And.intro e2 k2))
  clear B2 e2 k2
  refine hK.out _ _ R2 (fun hHeld=>?_)
  clear hK K R2
  refine rdg 5 (some 4) ?_
  refine wdn ?_
  clear hHeld
  go_wp2_with fail
  obtain ⟨B2,e2,k2⟩:=H2.out
  refine leaves_cons (f:=50) (args:=#[.pointer (some ⟨b,0,none⟩)]) (by simp) (by simp [go_sem]) ?_
  refine (unlock_deferred muLib ⟨b,0,none⟩ .returning _ (B2.row.cell (j:=0) (by omega)) (B2.row.free 0)).mono ?_
  rintro e u' w'' ⟨rfl,rfl,rfl⟩
  exact ⟨_,results_tmp rfl _ _ _,rfl,tp,v2,B2.free,e2.via id fun ⟨g,g1,g2⟩=>⟨g,g1,Nat.le_trans (HL.out.size) g2⟩,(HL.out.trans k2).trans ((But.set b 0 _).mono fun x e=>Or.inl e)⟩
end Go.Proofs.YtgccjefbedpmpaaGreatDoor

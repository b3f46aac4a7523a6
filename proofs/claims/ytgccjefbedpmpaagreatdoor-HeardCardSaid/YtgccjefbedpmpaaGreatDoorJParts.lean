import Derived.Laws.Cover3
import Derived.Test.YtgccjefbedpmpaaGreatDoorYWPack
namespace Go.Proofs.YtgccjefbedpmpaaGreatDoor
open Go.RowKit
set_option maxRecDepth 100000
set_option maxHeartbeats 8000000
variable {B g : Nat} {W2 w' w0 w1 w2 : World} {l : List Int} {o : Opn} {p pa q : Option Addr} {v v' : Value}
theorem infoDg:(Tryz.prog.info? 50).map (·.size)=some 3:=by kernel_rfl
theorem arrDg (g N c:Nat) (W:World):(Instr.arrayAt 50 (.slice (some (Ad g N)) 3 c)).run Tryz.prog W=.ok ((pt g N)) W:=
 Go.run_arrayAt (P:=Tryz.prog) (w:=W) 50 5 3 _ _ _ (by kernel_rfl) (qb _)
theorem dshort_gen (v:Value) (l:List Int) (w:World) (H:∀ W,Bel w W→Cs 117 #[v] W fun e w'=>e=.returned (.agg (rowOf 32 fun n=>U8 (dig (strOfNums l) n)))∧Bel W w') :
  Cs 102 #[v] w fun e w'=>e=.returned (.agg #[U8 (dig (strOfNums l) 0),U8 (dig (strOfNums l) 1),U8 (dig (strOfNums l) 2)])∧Bel w w':=by
 generalize strOfNums l=s at *;have HH:Hid (∀ W,Bel w W→Cs 117 #[v] W fun e w'=>e=.returned (.agg (rowOf 32 fun n=>U8 (dig s n)))∧Bel W w'):=H;clear H;have ha:=arrDg;go_enter Tryz.func102,Tryz.ntmps102;have hz:Bel w (w.alloc (.cells #[U8 0,U8 0,U8 0] 50)):=(qj _ _).alloc (qb _) _
 go_wp2_with (first
  | (go_at_call 117;refine (HH.out _ hz).mono ?_;rintro e w1 ⟨rfl,hb1⟩;have hr1:=RowIs.new w1 137 32 fun _=>U8 0;have hD:RowIs (World.setRow (w1.alloc (.cells (rowOf 32 fun _=>U8 0) 137)) w1.heap.size (rowOf 32 fun n=>U8 (dig s n))) w1.heap.size 137 32 (fun n=>U8 (dig s n)):=hr1.setRow _;have c0:=hD.cell (show 0<32 by omega);have c1:=hD.cell (show 1<32 by omega);have c2:=hD.cell (show 2<32 by omega);have hB3:Bel w1 (World.setRow (w1.alloc (.cells (rowOf 32 fun _=>U8 0) 137)) w1.heap.size (rowOf 32 fun n=>U8 (dig s n))):=kn ((qj _ _).alloc (qb _) _) (qb _) _;have q3:=(RowIs.new w 50 3 fun _=>U8 0).below hb1 (by simp);have r3:=q3.below hB3 q3.lt;rw [← z32lit] at c0 c1 c2)
  | (refine wpList_store_row rfl 137 (.tmp 3) (.tmp 5) rfl w1.heap.size _ rfl rfl _ _ hr1 (by rw [rowOf_size];exact info90) (by rw [rowOf_size,rowOf_size]) (ints_one _ _ _) ?_)
  | (refine wpList_store_row rfl 50 (.tmp 2) (.tmp 8) rfl w.heap.size _ rfl rfl _ _ r3 infoDg (by rw [rowOf_size];rfl) (by simp [Value.oneCell']) ?_))
 have hB1:=hz.trans (hb1.mono hz.size);have hB4:=hB1.trans (hB3.mono hB1.size);exact bodyPost_ret (v:=.agg #[U8 (dig s 0),U8 (dig s 1),U8 (dig s 2)]) (results_cell_row Tryz.results102 _ _ w.heap.size 50 _ (0,0) _ rfl (r3.setRow (fun j=>match j with|0=>U8 (dig s 0)|1=>U8 (dig s 1)|_=>U8 (dig s 2))) Tryz.underlying50 rfl infoDg) rfl ⟨rfl,kn hB4 (qb _) _⟩
theorem OwnB.ge {w:World} (h:OwnB w B v l):∀ g,v.ownBlock=some g→B≤g:=fun g hg=>(h.lt g hg).1
structure AppR (v v':Value) (w w':World):Prop where
 but:But (fun b=>v.ownBlock=some b) w w'
 lies:∀ g,v'.ownBlock=some g→v.ownBlock=some g∨w.heap.size≤g
theorem AppR.refl (v:Value) (w:World):AppR v v w w:=⟨But.refl _ _,fun _ e=>Or.inl e⟩
theorem AppR.trans {a b c:Value} {w:World} (h:AppR a b w w1) (k:AppR b c w1 w2):AppR a c w w2:=by
 have hs:=h.but.size;refine ⟨⟨qi hs k.but.size,k.but.os.trans h.but.os,k.but.tape.trans h.but.tape,k.but.output.trans h.but.output,fun i hi hx=>?_⟩,fun g e=>?_⟩
 ·refine (k.but.block i (by omega) fun e=>?_).trans (h.but.block i hi hx);rcases h.lies i e with e|e
  ·exact hx e
  ·omega
 ·rcases k.lies g e with e|e
  ·exact h.lies g e
  ·exact Or.inr (by omega)
theorem AppR.alloc {w:World} (h:AppR v v' w w1) (o:Obj):AppR v v' w (w1.alloc o):=⟨h.but.alloc o,h.lies⟩
theorem AppR.grow {v1 v2:Value} {w:World} (h:AppR v v1 w w1) (hg:w1.grownBy w2 v1.ownBlock) (hl:v2.ownBlock=v1.ownBlock∨v2.ownBlock=some w1.heap.size):AppR v v2 w w2:=
 h.trans ⟨⟨hg.size,hg.os,hg.tape,hg.output,fun i hi hx=>hg.block i hi fun e=>hx e.symm⟩,fun g e=>by
  rcases hl with hl|hl
  ·exact Or.inl (hl▸e)
  ·rw [hl] at e;cases e;exact Or.inr (qb _)⟩
theorem AppR.below {w:World} (h:AppR v v' w w') (hO:OwnB w B v l) (hB:B≤w.heap.size):Below B w w':=
 ⟨h.but.os,h.but.tape,h.but.output,h.but.size,fun i hi=>h.but.block i (by omega) fun e=>by have:=hO.ge i e;omega⟩
theorem appVar_any (m:Nat) (hm:m<18446744073709551616) (B:Nat) (v:Value) (l:List Int) (w:World) (hB:B≤w.heap.size) (hl:l.length+10≤140737488355328) (hO:OwnB w B v l) :
  Cs 181 #[v,U6 m] w fun e w'=>∃ v',e=.returned v'∧OwnB w' B v' (l++vn m)∧AppR v v' w w':=by
 obtain ⟨i0,hi,hz0,hz1,hz2⟩:=info_parts info5;have hsz:=(vx 9 m (by omega)).2;go_enter Tryz.func181,Tryz.ntmps181;go_wp2_with fail;go_loopw [0,1] (fun vv nv wr=>∃ (k:Nat) (l1:List Int),nv=U6 k∧k≤m∧l1++vn k=l++vn m∧OwnB wr B vv l1∧AppR v vv w wr) (fun _ nv _=>(intOf nv).toNat)
 case atStart=>exact ⟨m,l,rfl,qb _,rfl,hO,AppR.refl _ _⟩
 case round=>
  obtain ⟨k,l1,rfl,hk,hs,hown,hbl⟩:=hrel;have hle:(l1++vn k).length≤140737488355328:=by rw [hs,qe];omega
  rw [qe] at hle;have hBr:=qi hB hbl.but.size;by_cases hlt:k<128
  ·have lm:¬ (128:Int)≤(k:Int):=by omega
   rw [vn_lt hlt] at hs hle;have hle1:l1.length+1≤140737488355328:=by simpa using hle
   have Hs:Hid (l1++[(k:Int)]=l++vn m):=hs;clear hs hle;go_wp2_with (at_builtin;refine wpList_append_own_at _ rfl (.tmp 16) (.tmp 19) 59 rfl B 5 i0 (U8 0) 1 1 Tryz.underlying59 hi hz0 hz1 hz2 rfl (by decide) _ l1.length (u8s l1) rfl (hown.alloc _) (Ad wr.heap.size 0) 1 1 (u8s [(k:Int)]) rfl rfl ?hn (xq _) (by unfold maxLen;omega) (by omega) (by simp;omega) ?_;(case hn=>exact cell_one_new _ _ _);intro v2 w2 ho2 hg2 _ hat2;have hb2:=(hbl.alloc _).grow hg2 hat2);go_ret;refine ⟨_,rfl,?_,hb2⟩;rw [← Hs.out];unfold OwnB;rw [qe,xh];exact ho2
  ·have lm:(128:Int)≤(k:Int):=by omega
   rw [vn_ge hlt] at hs hle;have hle1:l1.length+1≤140737488355328:=by simp at hle;omega
   have hs':(l1++[128+(k:Int) % 128])++vn (k / 128)=l++vn m:=by rw [← hs,qr];rfl
   have Hs:Hid ((l1++[128+(k:Int) % 128])++vn (k / 128)=l++vn m):=hs'
   have e8:IntKind.u8.wrap ((k:Int) % 128+128)=128+(k:Int) % 128:=by
    have:IntKind.u8.wrap ((k:Int) % 128+128)=((k:Int) % 128+128) % 256:=by simp [IntKind.wrap,IntKind.bits,IntKind.signed]
    rw [this];omega
   clear hs hle hs';go_wp2_with (at_builtin;refine wpList_append_own_at _ rfl (.tmp 7) (.tmp 12) 59 rfl B 5 i0 (U8 0) 1 1 Tryz.underlying59 hi hz0 hz1 hz2 rfl (by decide) _ l1.length (u8s l1) rfl (hown.alloc _) (Ad wr.heap.size 0) 1 1 (u8s [128+(k:Int) % 128]) rfl rfl ?hn (xq _) (by unfold maxLen;omega) (by omega) (by simp;omega) ?_;(case hn=>exact cell_one_new _ _ _);intro v2 w2 ho2 hg2 _ hat2;have hb2:=(hbl.alloc _).grow hg2 hat2);go_roundw
   case rel=>exact ⟨k / 128,_,by go_num,by omega,Hs.out,by unfold OwnB;rw [qe,xh];exact ho2,hb2⟩
   case measure=>simp [intOf];omega
theorem op6A {w W w3:World} {c0 c1 c2 c3 c4 c5:Value} (hO:OwnB w B v l) (hb:AppR v v' W w3) (hW:W=w.alloc (.cells #[c0,c1,c2,c3,c4,c5] 43)):w3.cell? (Ad w.heap.size 0)=some c0∧w3.cell? (Ad w.heap.size 1)=some c1∧w3.cell? (Ad w.heap.size 2)=some c2∧w3.cell? (Ad w.heap.size 3)=some c3∧w3.cell? (Ad w.heap.size 4)=some c4∧w3.cell? (Ad w.heap.size 5)=some c5:=by
 subst hW;have e:=hb.but.block w.heap.size (by simp) fun e=>by have:=(hO.lt _ e).2;omega
 have k:∀ j v,(#[c0,c1,c2,c3,c4,c5])[j]?=some v→w3.cell? (Ad w.heap.size j)=some v:=fun j v h=>(qz (a:=(Ad w.heap.size j)) e).trans ((cell_of_row _ _ _ _ _ _ (heap_alloc_new w _)).trans h);exact ⟨k 0 _ rfl,k 1 _ rfl,k 2 _ rfl,k 3 _ rfl,k 4 _ rfl,k 5 _ rfl⟩
theorem vp (m:Int) (h0:0≤m) (h1:m<18446744073709551616) (B:Nat) (v:Value) (l:List Int) (w:World) (hB:B≤w.heap.size) (hl:l.length+10≤140737488355328) (hO:OwnB w B v l) :
  Cs 181 #[v,U6 m] w fun e w'=>∃ v',e=.returned v'∧OwnB w' B v' (l++vn m.toNat)∧AppR v v' w w':=by
 have:=appVar_any m.toNat (by omega) B v l w hB hl hO;rw [kh h0] at this;exact this
theorem appOp_any (o:Opn) (ho:OpW o) (hk:o.kd=1∨o.kd=2) (B:Nat) (v:Value) (l:List Int) (w:World) (hB:B≤w.heap.size) (hl:l.length+100≤140737488355328) (hO:OwnB w B v l) :
  Cs 184 #[v,.agg (oC o)] w fun e w'=>∃ v',e=.returned v'∧OwnB w' B v' (l++opB o)∧AppR v v' w w':=by
 obtain ⟨kd,cl,ck,st,rf,ch⟩:=o;obtain ⟨hkd,⟨a1,b1⟩,⟨a2,b2⟩,⟨a3,b3⟩,⟨a4,b4⟩,⟨a5,b5,c5⟩⟩:=ho;dsimp only at *;obtain ⟨i0,hi,hz0,hz1,hz2⟩:=info_parts info5;have s1:=(vx 9 cl.toNat (by omega)).2;have s2:=(vx 9 ck.toNat (by omega)).2;have s3:=(vx 9 st.toNat (by omega)).2;have s4:=(vx 9 rf.toNat (by omega)).2;have s5:=(vx 9 ch.toNat (by omega)).2;have x1:IntKind.u64.wrap cl=cl:=u64r _ (by omega);have x2:IntKind.u64.wrap ck=ck:=u64r _ (by omega);have x3:IntKind.u64.wrap st=st:=u64r _ (by omega);have x5:IntKind.u64.wrap ch=ch:=u64r _ (by omega);rcases hk with rfl|rfl
 ·have hZ:AppR v v w (w.alloc (.cells #[I6 1,U3 cl,U3 ck,U3 st,U6 rf,I3 ch] 43)):=(AppR.refl v w).alloc _;go_enter Tryz.func184,Tryz.ntmps184
  go_wp2_with (first
   | (go_at_call 181;have hq:=R5;clear hq;refine (vp ch a5 (by omega) B v5 (((((l++[1])++vn cl.toNat)++vn ck.toNat)++vn st.toNat)++vn rf.toNat) w5 (qi hB (qi (by simp) R5.but.size)) (by simp only [qe,qp,qv];omega) ho5).mono ?_;rintro e w6 ⟨v6,rfl,ho6,r6⟩;have R6:=R5.trans r6;obtain ⟨y60,y61,y62,y63,y64,y65⟩:=op6A hO R6 rfl)
   | (go_at_call 181;have hq:=R4;clear hq;refine (vp rf a4 (by omega) B v4 ((((l++[1])++vn cl.toNat)++vn ck.toNat)++vn st.toNat) w4 (qi hB (qi (by simp) R4.but.size)) (by simp only [qe,qp,qv];omega) ho4).mono ?_;rintro e w5 ⟨v5,rfl,ho5,r5⟩;have R5:=R4.trans r5;obtain ⟨y50,y51,y52,y53,y54,y55⟩:=op6A hO R5 rfl)
   | (go_at_call 181;have hq:=R3;clear hq;refine (vp st a3 (by omega) B v3 (((l++[1])++vn cl.toNat)++vn ck.toNat) w3 (qi hB (qi (by simp) R3.but.size)) (by simp only [qe,qp,qv];omega) ho3).mono ?_;rintro e w4 ⟨v4,rfl,ho4,r4⟩;have R4:=R3.trans r4;obtain ⟨y40,y41,y42,y43,y44,y45⟩:=op6A hO R4 rfl)
   | (go_at_call 181;have hq:=R2;clear hq;refine (vp ck a2 (by omega) B v2 ((l++[1])++vn cl.toNat) w2 (qi hB (qi (by simp) R2.but.size)) (by simp only [qe,qp,qv];omega) ho2).mono ?_;rintro e w3 ⟨v3,rfl,ho3,r3⟩;have R3:=R2.trans r3;obtain ⟨y30,y31,y32,y33,y34,y35⟩:=op6A hO R3 rfl)
   | (go_at_call 181;refine (vp cl a1 (by omega) B v1 (l++[1]) w1 (qi hB (qi (by simp) R1.but.size)) (by simp only [qe,qp,qv];omega) ho1).mono ?_;rintro e w2 ⟨v2,rfl,ho2,r2⟩;have R2:=R1.trans r2;obtain ⟨y20,y21,y22,y23,y24,y25⟩:=op6A hO R2 rfl)
   | (at_builtin;refine wpList_append_own_at _ rfl (.tmp 5) (.tmp 9) 59 rfl B 5 i0 (U8 0) 1 1 Tryz.underlying59 hi hz0 hz1 hz2 rfl (by decide) v l.length (u8s l) rfl ((zg hO _).alloc _) ⟨w.heap.size+1,0,none⟩ 1 1 (u8s [1]) rfl rfl ?hn (xq _) (by unfold maxLen;omega) (by omega) (by simp;omega) ?_;(case hn=>have:=cell_one_new (w.alloc (.cells #[I6 1,U3 cl,U3 ck,U3 st,U6 rf,I3 ch] 43)) (U8 1) 5;simpa [u8s] using this);intro v1 w1 hq1 hg1 _ hat1;have R1:=((AppR.refl v (w.alloc (.cells #[I6 1,U3 cl,U3 ck,U3 st,U6 rf,I3 ch] 43))).alloc _).grow hg1 hat1;have ho1:OwnB w1 B v1 (l++[1]):=(by unfold OwnB;rw [qe,xh];exact hq1);obtain ⟨y10,y11,y12,y13,y14,y15⟩:=op6A hO R1 rfl))
  go_ret;refine ⟨_,rfl,?_,hZ.trans R6⟩;have e:((((((l++[1])++vn cl.toNat)++vn ck.toNat)++vn st.toNat)++vn rf.toNat)++vn ch.toNat)=l++opB ⟨1,cl,ck,st,rf,ch⟩:=by simp [opB,List.append_assoc]
  rw [← e];exact ho6
 ·obtain rfl:ch=0:=c5 (by decide);have hZ:AppR v v w (w.alloc (.cells #[I6 2,U3 cl,U3 ck,U3 st,U6 rf,I3 0] 43)):=(AppR.refl v w).alloc _;go_enter Tryz.func184,Tryz.ntmps184
  go_wp2_with (first
   | (go_at_call 181;have hq:=R4;clear hq;refine (vp rf a4 (by omega) B v4 ((((l++[2])++vn cl.toNat)++vn ck.toNat)++vn st.toNat) w4 (qi hB (qi (by simp) R4.but.size)) (by simp only [qe,qp,qv];omega) ho4).mono ?_;rintro e w5 ⟨v5,rfl,ho5,r5⟩;have R5:=R4.trans r5;obtain ⟨y50,y51,y52,y53,y54,y55⟩:=op6A hO R5 rfl)
   | (go_at_call 181;have hq:=R3;clear hq;refine (vp st a3 (by omega) B v3 (((l++[2])++vn cl.toNat)++vn ck.toNat) w3 (qi hB (qi (by simp) R3.but.size)) (by simp only [qe,qp,qv];omega) ho3).mono ?_;rintro e w4 ⟨v4,rfl,ho4,r4⟩;have R4:=R3.trans r4;obtain ⟨y40,y41,y42,y43,y44,y45⟩:=op6A hO R4 rfl)
   | (go_at_call 181;have hq:=R2;clear hq;refine (vp ck a2 (by omega) B v2 ((l++[2])++vn cl.toNat) w2 (qi hB (qi (by simp) R2.but.size)) (by simp only [qe,qp,qv];omega) ho2).mono ?_;rintro e w3 ⟨v3,rfl,ho3,r3⟩;have R3:=R2.trans r3;obtain ⟨y30,y31,y32,y33,y34,y35⟩:=op6A hO R3 rfl)
   | (go_at_call 181;refine (vp cl a1 (by omega) B v1 (l++[2]) w1 (qi hB (qi (by simp) R1.but.size)) (by simp only [qe,qp,qv];omega) ho1).mono ?_;rintro e w2 ⟨v2,rfl,ho2,r2⟩;have R2:=R1.trans r2;obtain ⟨y20,y21,y22,y23,y24,y25⟩:=op6A hO R2 rfl)
   | (at_builtin;refine wpList_append_own_at _ rfl (.tmp 5) (.tmp 9) 59 rfl B 5 i0 (U8 0) 1 1 Tryz.underlying59 hi hz0 hz1 hz2 rfl (by decide) v l.length (u8s l) rfl ((zg hO _).alloc _) ⟨w.heap.size+1,0,none⟩ 1 1 (u8s [2]) rfl rfl ?hn (xq _) (by unfold maxLen;omega) (by omega) (by simp;omega) ?_;(case hn=>have:=cell_one_new (w.alloc (.cells #[I6 2,U3 cl,U3 ck,U3 st,U6 rf,I3 0] 43)) (U8 2) 5;simpa [u8s] using this);intro v1 w1 hq1 hg1 _ hat1;have R1:=((AppR.refl v (w.alloc (.cells #[I6 2,U3 cl,U3 ck,U3 st,U6 rf,I3 0] 43))).alloc _).grow hg1 hat1;have ho1:OwnB w1 B v1 (l++[2]):=(by unfold OwnB;rw [qe,xh];exact hq1);obtain ⟨y10,y11,y12,y13,y14,y15⟩:=op6A hO R1 rfl))
  go_ret;refine ⟨_,rfl,?_,hZ.trans R5⟩;have e:(((((l++[2])++vn cl.toNat)++vn ck.toNat)++vn st.toNat)++vn rf.toNat)=l++opB ⟨2,cl,ck,st,rf,0⟩:=by simp [opB,List.append_assoc]
  rw [← e];exact ho5
structure Res3 (W:World) (g:Nat) (T1 T2:TypeId) (p:Option Addr) (o:Opn) (q:Option Addr):Prop where
 r1:RowIs W g T1 1 (fun _=>.pointer p)
 r2:RowIs W (g+1) T2 6 (opV o)
 r3:RowIs W (g+1+1) T1 1 (fun _=>.pointer q)
section
variable {W : World} {g : Nat} {T1 T2 : TypeId} {p q : Option Addr} {o : Opn}
theorem Res3.mk3 (w:World) (T1 T2:TypeId) (p:Option Addr) (o:Opn) (q:Option Addr):Bel w (((w.alloc (.cells #[.pointer p] T1)).alloc (.cells (oC o) T2)).alloc (.cells #[.pointer q] T1))∧Res3 (((w.alloc (.cells #[.pointer p] T1)).alloc (.cells (oC o) T2)).alloc (.cells #[.pointer q] T1)) w.heap.size T1 T2 p o q∧(((w.alloc (.cells #[.pointer p] T1)).alloc (.cells (oC o) T2)).alloc (.cells #[.pointer q] T1)).heap.size=w.heap.size+1+1+1:=by
 have hz1:(w.alloc (.cells #[.pointer p] T1)).heap.size=w.heap.size+1:=by simp
 have hz2:((w.alloc (.cells #[.pointer p] T1)).alloc (.cells (oC o) T2)).heap.size=w.heap.size+1+1:=by simp
 have b1:Bel w (w.alloc (.cells #[.pointer p] T1)):=(qj _ _).alloc (qb _) _;have b2:=b1.alloc b1.size (.cells (oC o) T2);have b3:=b2.alloc b2.size (.cells #[.pointer q] T1);have r0:=RowIs.last (w:=w) (t:=T1) (f:=fun _=>.pointer p) (n:=1) (cs:=#[.pointer p]) rfl rfl;have r1:=RowIs.last (w:=w.alloc (.cells #[.pointer p] T1)) (t:=T2) (f:=opV o) (n:=6) (cs:=(oC o)) rfl rfl;have r2:=RowIs.last (w:=(w.alloc (.cells #[.pointer p] T1)).alloc (.cells (oC o) T2)) (t:=T1) (f:=fun _=>.pointer q) (n:=1) (cs:=#[.pointer q]) rfl rfl;rw [hz1] at r1;rw [hz2] at r2;exact ⟨b3,⟨(r0.alloc _).alloc _,r1.alloc _,r2⟩,by simp⟩
theorem Res3.new (w:World) (T1 T2:TypeId):Bel w (((w.alloc (.cells #[.pointer none] T1)).alloc (.cells oZ T2)).alloc (.cells #[.pointer none] T1))∧Res3 (((w.alloc (.cells #[.pointer none] T1)).alloc (.cells oZ T2)).alloc (.cells #[.pointer none] T1)) w.heap.size T1 T2 none o0 none:=
 ⟨(Res3.mk3 w T1 T2 none o0 none).1,(Res3.mk3 w T1 T2 none o0 none).2.1⟩
theorem Res3.kept (h:Res3 W g T1 T2 p o q) (hb:Bel W W2):Res3 W2 g T1 T2 p o q:=⟨h.r1.below hb h.r1.lt,h.r2.below hb h.r2.lt,h.r3.below hb h.r3.lt⟩
theorem Res3.drew (h:Res3 W g T1 T2 p o q):Res3 W.drew g T1 T2 p o q:=⟨h.r1.drew,h.r2.drew,h.r3.drew⟩
theorem Res3.set1 (h:Res3 W g T1 T2 p o q) (x:Option Addr):Res3 (W.setRow g (rowOf 1 fun _=>.pointer x)) g T1 T2 x o q:=⟨h.r1.setRow _,h.r2.setRowOther (by omega) _,h.r3.setRowOther (by omega) _⟩
theorem Res3.set2 (h:Res3 W g T1 T2 p o q) (x:Opn):Res3 (W.setRow (g+1) (rowOf 6 (opV x))) g T1 T2 p x q:=⟨h.r1.setRowOther (by omega) _,h.r2.setRow _,h.r3.setRowOther (by omega) _⟩
theorem Res3.set3 (h:Res3 W g T1 T2 p o q) (x:Option Addr):Res3 (W.setRow (g+1+1) (rowOf 1 fun _=>.pointer x)) g T1 T2 p o x:=⟨h.r1.setRowOther (by omega) _,h.r2.setRowOther (by omega) _,h.r3.setRow _⟩
theorem Res3.c1 (h:Res3 W g T1 T2 p o q):W.cell? (Ad g 0)=some (.pointer p):=h.r1.cell (j:=0) (by omega)
theorem Res3.c3 (h:Res3 W g T1 T2 p o q):W.cell? ⟨g+1+1,0,none⟩=some (.pointer q):=h.r3.cell (j:=0) (by omega)
theorem Res3.c2 (h:Res3 W g T1 T2 p o q):W.cell? ⟨g+1,0,none⟩=some (I6 o.kd)∧W.cell? ⟨g+1,1,none⟩=some (U3 o.cl)∧W.cell? ⟨g+1,2,none⟩=some (U3 o.ck)∧W.cell? ⟨g+1,3,none⟩=some (U3 o.st)∧W.cell? ⟨g+1,4,none⟩=some (U6 o.rf)∧W.cell? ⟨g+1,5,none⟩=some (I3 o.ch):=
 ⟨h.r2.cell (j:=0) (by omega),h.r2.cell (j:=1) (by omega),h.r2.cell (j:=2) (by omega),h.r2.cell (j:=3) (by omega),h.r2.cell (j:=4) (by omega),h.r2.cell (j:=5) (by omega)⟩
end
theorem results_c3t {P:Program} {fn:Func} {p q r u:Tmp} {t1 t2 t3:TypeId} (h:fn.results=#[.cell p t1,.cell q t2,.cell r t3,.tmp u]) (tmps:Array Value) (w:World) (g1 g2 g3:Nat) (k1 k2 k3:TypeId) (c1 c2 c3:Array Value) (d1 d2 d3:TypeDesc) (x:Value)
  (hp:tmps.getD p undef=(pt g1 0)) (hq:tmps.getD q undef=(pt g2 0)) (hr:tmps.getD r undef=(pt g3 0)) (hx:tmps.getD u undef=x)
  (h1:w.heap[g1]?=some (.cells c1 k1 (0,0))) (h2:w.heap[g2]?=some (.cells c2 k2 (0,0))) (h3:w.heap[g3]?=some (.cells c3 k3 (0,0)))
  (u1:P.underlying t1=some d1) (u2:P.underlying t2=some d2) (u3:P.underlying t3=some d3) (e1:(match d1 with | .struct _ | .array _ _=>true|_=>false)=true) (e2:(match d2 with | .struct _ | .array _ _=>true|_=>false)=true) (e3:(match d3 with | .struct _ | .array _ _=>true|_=>false)=true)
  (i1:(P.info? t1).map (·.size)=some c1.size) (i2:(P.info? t2).map (·.size)=some c2.size) (i3:(P.info? t3).map (·.size)=some c3.size) :
  (results fn tmps).run P w=.ok (.tuple #[.agg c1,.agg c2,.agg c3,x]) w:=by
 have hp':tmps[p]?.getD undef=(pt g1 0):=by simpa using hp
 have hq':tmps[q]?.getD undef=(pt g2 0):=by simpa using hq
 have hr':tmps[r]?.getD undef=(pt g3 0):=by simpa using hr
 have hx':tmps[u]?.getD undef=x:=by simpa using hx
 simp [results,h,hp',hq',hr',hx',asAddr,run_loadVar_row w g1 k1 t1 c1 (0,0) d1 h1 u1 e1 i1,run_loadVar_row w g2 k2 t2 c2 (0,0) d2 h2 u2 e2 i2,run_loadVar_row w g3 k3 t3 c3 (0,0) d3 h3 u3 e3 i3]
def partsV (p:Option Addr) (o:Opn) (q:Option Addr) (b:Bool):Value:=.tuple #[.agg #[.pointer p],.agg (oC o),.agg #[.pointer q],.bool b]
def PartsP (t:Tr) (w:World) (e:Ending) (w':World):Prop:=Bel w w'∧match t with
 | ⟨none⟩=>e=.returned (partsV none o0 none false)
 | ⟨some (o,_,l,r)⟩=>∃ p q,e=.returned (partsV p o q true)∧IsTr w' (.pointer p) l∧IsTr w' (.pointer q) r
theorem infoEnt6 (o:Opn):(Tryz.prog.info? 229).map (·.size)=some (rowOf 6 (opV o)).size:=by rw [rowOf_size];exact infoEnt
structure PartS (w W:World) (T1 T2:TypeId) (pa:Option Addr):Prop where
 below:Bel w W
 arg:W.cell? (Ad w.heap.size 0)=some (.pointer pa)
 res:∃ p o q,Res3 W (w.heap.size+1) T1 T2 p o q
theorem PartS.new (w:World) (pa:Option Addr) (T0 T1 T2:TypeId):PartS w ((((w.alloc (.cells #[.pointer pa] T0)).alloc (.cells #[.pointer none] T1)).alloc (.cells oZ T2)).alloc (.cells #[.pointer none] T1)) T1 T2 pa∧Res3 ((((w.alloc (.cells #[.pointer pa] T0)).alloc (.cells #[.pointer none] T1)).alloc (.cells oZ T2)).alloc (.cells #[.pointer none] T1)) (w.heap.size+1) T1 T2 none o0 none:=by
 have hz1:(w.alloc (.cells #[.pointer pa] T0)).heap.size=w.heap.size+1:=by simp
 have b1:Bel w (w.alloc (.cells #[.pointer pa] T0)):=(qj _ _).alloc (qb _) _;obtain ⟨b2,h⟩:=Res3.new (w.alloc (.cells #[.pointer pa] T0)) T1 T2;rw [hz1] at h;have c:(w.alloc (.cells #[.pointer pa] T0)).cell? (Ad w.heap.size 0)=some (.pointer pa):=(cell_of_row _ _ _ _ _ _ (heap_alloc_new w _)).trans rfl;exact ⟨⟨b1.trans (b2.mono b1.size),(b2.cell (block_lt_of_cell c)).trans c,_,_,_,h⟩,h⟩
theorem PartS.put {w W:World} {T1 T2:TypeId} (h:PartS w W T1 T2 pa) (hg:w.heap.size<g) {cs:Array Value} (hr:Res3 (W.setRow g cs) (w.heap.size+1) T1 T2 p o q):PartS w (W.setRow g cs) T1 T2 pa:=
 ⟨kn h.below (by omega) _,(qz (a:=(Ad w.heap.size 0)) (setRow_other _ _ _ _ (by show w.heap.size≠g;omega))).trans h.arg,_,_,_,hr⟩
theorem PartS.drew {w W:World} {T1 T2:TypeId} (h:PartS w W T1 T2 pa):PartS w W.drew T1 T2 pa:=⟨h.below.drew,h.arg,h.res.elim fun p h=>h.elim fun o h=>h.elim fun q h=>⟨p,o,q,h.drew⟩⟩
theorem NodeIs.setRow {w W:World} {b:Nat} {rk:Int} {vl vr:Value} (h:NodeIs w W b o rk vl vr) (h1:w.heap.size≤g) (h2:b<w.heap.size) (cs:Array Value):NodeIs w (W.setRow g cs) b o rk vl vr:=⟨kn h.below h1 _,h.row.setRowOther (by omega) _⟩
theorem tParts_any (t:Tr) (v:Value) (w:World) (hv:IsTr w v t):Cs 239 #[.agg #[v]] w (PartsP t w):=by
 cases t using Tr.cs with
 | nil=>
  obtain rfl:v=.pointer none:=hv;have H0:Hid (PartS w _ 101 229 none∧Res3 _ (w.heap.size+1) 101 229 none o0 none):=PartS.new w none 101 101 229;have ha:=H0.out.1.arg;go_enter Tryz.func239,Tryz.ntmps239;go_wp2;refine wp_region_held_drew (S:=fun W=>PartS w W 101 229 none∧Res3 W (w.heap.size+1) 101 229 none o0 none) (by kernel_rfl) ⟨H0.out.1.drew,H0.out.2.drew⟩ (fun hHeld=>?_);clear H0 ha;generalize World.drew _=wD at hHeld ⊢;refine x9 0 9 (fun _ h=>h.2.c1) ?_;refine x9 1 10 (fun _ h=>h.2.c2) ?_;refine x9 2 11 (fun _ h=>h.2.c3) ?_;refine rd 3 none rfl (fun K hK=>?_);rw [if_pos (by rfl)];refine wp_store_row 101 (.tmp 2) (.tmp 9) rfl (w.heap.size+1) (rowOf 1 fun _=>.pointer none) rfl rfl _ _ hHeld.2.r1 (by rw [rowOf_size];exact Qg) (by simp only [rowOf_size]) (Qd none) ?_;have r:=hHeld.2.set1 none;refine hK.out _ _ ⟨hHeld.1.put (by omega) r,r⟩ (fun hHeld=>?_);clear hK K r;generalize World.setRow _ _ _=wE at hHeld ⊢;refine rd 4 none rfl (fun K hK=>?_);rw [if_pos (by rfl)];refine wp_store_row 229 (.tmp 3) (.tmp 10) rfl (w.heap.size+1+1) (rowOf 6 (opV o0)) rfl rfl _ _ hHeld.2.r2 (infoEnt6 _) (by simp only [rowOf_size]) (vh o0) ?_;have r:=hHeld.2.set2 o0;refine hK.out _ _ ⟨hHeld.1.put (by omega) r,r⟩ (fun hHeld=>?_);clear hK K r;generalize World.setRow _ _ _=wF at hHeld ⊢;refine rd 5 none rfl (fun K hK=>?_);rw [if_pos (by rfl)];refine wp_store_row 101 (.tmp 4) (.tmp 11) rfl (w.heap.size+1+1+1) (rowOf 1 fun _=>.pointer none) rfl rfl _ _ hHeld.2.r3 (by rw [rowOf_size];exact Qg) (by simp only [rowOf_size]) (Qd none) ?_;have r:=hHeld.2.set3 none;refine hK.out _ _ ⟨hHeld.1.put (by omega) r,r⟩ (fun hHeld=>?_);clear hK K r;generalize World.setRow _ _ _=wG at hHeld ⊢;refine rdg 6 (some 5) ?_;refine xy ?_;go_wp2_with fail;exact bodyPost_ret (results_c3t Tryz.results239 _ _ _ _ _ _ _ _ _ _ _ _ _ _ _ rfl rfl rfl rfl hHeld.2.r1 hHeld.2.r2 hHeld.2.r3 Tryz.underlying101 Tryz.underlying229 Tryz.underlying101 rfl rfl rfl (by rw [rowOf_size];exact Qg) (infoEnt6 _) (by rw [rowOf_size];exact Qg)) rfl ⟨hHeld.1.below,rfl⟩
 | node o rk l r=>
  obtain ⟨b,vl,vr,rfl,hrow,hl,hr⟩:=hv;obtain ⟨la,rfl⟩:=hl.ptr;obtain ⟨ra,rfl⟩:=hr.ptr;have H0:Hid (PartS w _ 101 229 (some (Ad b 0))∧Res3 _ (w.heap.size+1) 101 229 none o0 none):=PartS.new w (some (Ad b 0)) 101 101 229;have HN:Hid (NodeIs w _ b o rk (.pointer la) (.pointer ra)):=⟨H0.out.1.below,hrow.below H0.out.1.below hrow.lt⟩;have HT:Hid (IsTr w (.pointer la) l∧IsTr w (.pointer ra) r):=⟨hl,hr⟩;have hbl:=hrow.lt;have ha:=H0.out.1.arg;clear hl hr hrow;go_enter Tryz.func239,Tryz.ntmps239;go_wp2;refine wp_region_held_drew (S:=fun W=>PartS w W 101 229 (some (Ad b 0))∧NodeIs w W b o rk (.pointer la) (.pointer ra)) (by kernel_rfl) ⟨H0.out.1.drew,HN.out.drew⟩ (fun hHeld=>?_);have hR:=H0.out.2.drew;clear H0 ha HN;generalize World.drew _=wD at hHeld hR ⊢;refine ks 0 12 ?_;refine x9 1 13 (fun _ h=>h.1.arg) ?_;refine ks 2 14 ?_;refine ks 3 15 ?_;refine x9 4 16 (fun _ h=>h.2.c7) ?_;refine ks 5 17 ?_;refine ks 6 18 ?_;refine x9 7 19 (fun _ h=>h.1.arg) ?_;refine ks 8 20 ?_;refine ks 9 21 ?_;refine x9 10 22 (fun _ h=>h.2.op) ?_;refine ks 11 23 ?_;refine x9 12 24 (fun _ h=>h.1.arg) ?_;refine ks 13 25 ?_;refine ks 14 26 ?_;refine x9 15 27 (fun _ h=>h.2.c8) ?_;refine ks 16 28 ?_;refine rd 17 none rfl (fun K hK=>?_);rw [if_pos (by rfl)];refine wp_store_row 101 (.tmp 2) (.tmp 17) rfl (w.heap.size+1) (rowOf 1 fun _=>.pointer la) rfl rfl _ _ hR.r1 (by rw [rowOf_size];exact Qg) (by simp only [rowOf_size]) (Qd la) ?_;have hR:=hR.set1 la;refine hK.out _ _ ⟨hHeld.1.put (by omega) hR,hHeld.2.setRow (by omega) hbl _⟩ (fun hHeld=>?_);clear hK K;generalize World.setRow _ _ _=wE at hHeld hR ⊢;refine rd 18 none rfl (fun K hK=>?_);rw [if_pos (by rfl)];refine wp_store_row 229 (.tmp 3) (.tmp 22) rfl (w.heap.size+1+1) (rowOf 6 (opV o)) rfl rfl _ _ hR.r2 (infoEnt6 _) (by simp only [rowOf_size]) (vh o) ?_;have hR:=hR.set2 o;refine hK.out _ _ ⟨hHeld.1.put (by omega) hR,hHeld.2.setRow (by omega) hbl _⟩ (fun hHeld=>?_);clear hK K;generalize World.setRow _ _ _=wF at hHeld hR ⊢;refine rd 19 none rfl (fun K hK=>?_);rw [if_pos (by rfl)];refine wp_store_row 101 (.tmp 4) (.tmp 28) rfl (w.heap.size+1+1+1) (rowOf 1 fun _=>.pointer ra) rfl rfl _ _ hR.r3 (by rw [rowOf_size];exact Qg) (by simp only [rowOf_size]) (Qd ra) ?_;have hR:=hR.set3 ra;refine hK.out _ _ ⟨hHeld.1.put (by omega) hR,hHeld.2.setRow (by omega) hbl _⟩ (fun hHeld=>?_);clear hK K;generalize World.setRow _ _ _=wG at hHeld hR ⊢;refine rdg 20 (some 5) ?_;refine xy ?_;go_wp2_with fail;exact bodyPost_ret (results_c3t Tryz.results239 _ _ _ _ _ _ _ _ _ _ _ _ _ _ _ rfl rfl rfl rfl hR.r1 hR.r2 hR.r3 Tryz.underlying101 Tryz.underlying229 Tryz.underlying101 rfl rfl rfl (by rw [rowOf_size];exact Qg) (infoEnt6 _) (by rw [rowOf_size];exact Qg)) rfl ⟨hHeld.1.below,la,ra,rfl,HT.out.1.below hHeld.1.below,HT.out.2.below hHeld.1.below⟩
theorem PartsP.out {t:Tr} {w:World} {e:Ending} (h:PartsP t w e w'):∃ (p:Option Addr) (o:Opn) (q:Option Addr) (b:Bool),e=.returned (.tuple #[.agg #[.pointer p],.agg (oC o),.agg #[.pointer q],.bool b])∧Bel w w'∧∀ w0 W2,Bel w0 W2→(∀ t v,IsTr w' v t→IsTr W2 v t)→PartsP t w0 (.returned (.tuple #[.agg #[.pointer p],.agg (oC o),.agg #[.pointer q],.bool b])) W2:=by
 obtain ⟨hb,h⟩:=h
 cases t using Tr.cs with
 | nil=>exact ⟨none,o0,none,false,h,hb,fun _ _ h2 _=>⟨h2,rfl⟩⟩
 | node o rk l r=>
  obtain ⟨p,q,rfl,h1,h2⟩:=h;exact ⟨p,o,q,true,rfl,hb,fun _ _ h3 k=>⟨h3,p,q,rfl,k _ _ h1,k _ _ h2⟩⟩
theorem PartS.kept {w W:World} {T1 T2:TypeId} (h:PartS w W T1 T2 pa) (hb:Bel W W2):PartS w W2 T1 T2 pa:=⟨h.below.trans (hb.mono h.below.size),(hb.cell (block_lt_of_cell h.arg)).trans h.arg,h.res.elim fun p h=>h.elim fun o h=>h.elim fun q h=>⟨p,o,q,h.kept hb⟩⟩
theorem Res3.other {W:World} {T1 T2:TypeId} (h:Res3 W g T1 T2 p o q) {g':Nat} (hg:g'<g∨g+2<g') (cs:Array Value):Res3 (W.setRow g' cs) g T1 T2 p o q:=⟨h.r1.setRowOther (by omega) _,h.r2.setRowOther (by omega) _,h.r3.setRowOther (by omega) _⟩
structure PartW (w w1 W:World) (g:Nat) (T1 T2:TypeId) (pa p q:Option Addr) (o:Opn):Prop where
 s:PartS w W T1 T2 pa
 r:Res3 W g 101 229 p o q
 k:∀ t v,IsTr w1 v t→IsTr W v t
theorem PartW.drew {w W:World} {T1 T2:TypeId} (h:PartW w w1 W g T1 T2 pa p q o):PartW w w1 W.drew g T1 T2 pa p q o:=⟨h.s.drew,h.r.drew,fun t v i=>(h.k t v i).below (qj _ _).drew⟩
theorem isTr_other {W:World} {T:TypeId} {n:Nat} {f:Nat→Value} (hr:RowIs W g T n f) (hT:T≠318) (k:∀ t v,IsTr w1 v t→IsTr W v t) (cs:Array Value):∀ t v,IsTr w1 v t→IsTr (W.setRow g cs) v t:=fun t v i=>Qr hr hT cs (k t v i)
theorem kr {p:Prop} (h:p):Hid p:=h
theorem sParts_any (t:Tr) (v:Value) (w:World) (hv:IsTr w v t):Cs 177 #[.agg #[v]] w (PartsP t w):=by
 obtain ⟨pa,rfl⟩:=hv.ptr;have H0:Hid (PartS w _ 103 43 pa∧Res3 _ (w.heap.size+1) 103 43 none o0 none):=PartS.new w pa 103 103 43;have HC:=kr (tParts_any t (.pointer pa) _ (hv.below H0.out.1.below));have ha:=H0.out.1.arg;clear hv;go_enter Tryz.func177,Tryz.ntmps177;go_wp2_with (go_at_call 239;refine HC.out.mono ?_;intro e w1 hP;obtain ⟨p,o,q,b,rfl,hb1,hk⟩:=hP.out;have HK:=kr hk;have HP:=kr (qd (H0.out.1.kept hb1) (H0.out.2.kept hb1));clear hP hk);obtain ⟨hb2,x3,-⟩:=Res3.mk3 w1 101 229 p o q;have hW:PartW w w1 _ w1.heap.size 103 43 pa p q o:=⟨HP.out.1.kept hb2,x3,fun t v i=>i.below hb2⟩;have hR:Res3 _ (w.heap.size+1) 103 43 none o0 none:=HP.out.2.kept hb2;have hs:w.heap.size+4≤w1.heap.size:=HP.out.2.r3.lt;clear HP H0 HC ha x3 hb2;generalize World.alloc (World.alloc (World.alloc _ _) _) _=wC at hW hR ⊢;refine wp_region_held_drew (S:=fun W=>PartW w w1 W w1.heap.size 103 43 pa p q o) (by kernel_rfl) hW.drew (fun hHeld=>?_);have hR:=hR.drew;clear hW;generalize World.drew _=wD at hHeld hR ⊢;refine x9 0 17 (fun _ h=>h.r.c1) ?_;refine ks 1 18 ?_;refine ks 2 19 ?_;refine x9 3 20 (fun _ h=>h.r.c2) ?_;refine x9 4 21 (fun _ h=>h.r.c3) ?_;refine ks 5 22 ?_;refine ks 6 23 ?_;refine rd 7 none rfl (fun K hK=>?_);rw [if_pos (by rfl)];refine wp_store_row 103 (.tmp 2) (.tmp 18) rfl (w.heap.size+1) (rowOf 1 fun _=>.pointer p) rfl rfl _ _ hR.r1 (by rw [rowOf_size];exact infoSet) (by simp only [rowOf_size]) (Qd p) ?_;have hR2:=hR.set1 p;refine hK.out _ _ ⟨hHeld.s.put (by omega) hR2,hHeld.r.other (by omega) _,isTr_other hR.r1 (by decide) hHeld.k _⟩ (fun hHeld=>?_);clear hK K hR;generalize World.setRow _ _ _=wE at hHeld hR2 ⊢;refine rd 8 none rfl (fun K hK=>?_);rw [if_pos (by rfl)];refine wp_store_row 43 (.tmp 3) (.tmp 20) rfl (w.heap.size+1+1) (rowOf 6 (opV o)) rfl rfl _ _ hR2.r2 (by rw [rowOf_size];exact vd) (by simp only [rowOf_size]) (vh o) ?_;have hR3:=hR2.set2 o;refine hK.out _ _ ⟨hHeld.s.put (by omega) hR3,hHeld.r.other (by omega) _,isTr_other hR2.r2 (by decide) hHeld.k _⟩ (fun hHeld=>?_);clear hK K hR2;generalize World.setRow _ _ _=wF at hHeld hR3 ⊢;refine rd 9 none rfl (fun K hK=>?_);rw [if_pos (by rfl)];refine wp_store_row 103 (.tmp 4) (.tmp 22) rfl (w.heap.size+1+1+1) (rowOf 1 fun _=>.pointer q) rfl rfl _ _ hR3.r3 (by rw [rowOf_size];exact infoSet) (by simp only [rowOf_size]) (Qd q) ?_;have hR4:=hR3.set3 q;refine hK.out _ _ ⟨hHeld.s.put (by omega) hR4,hHeld.r.other (by omega) _,isTr_other hR3.r3 (by decide) hHeld.k _⟩ (fun hHeld=>?_);clear hK K hR3;generalize World.setRow _ _ _=wG at hHeld hR4 ⊢;refine rdg 10 (some 5) ?_;refine xy ?_;go_wp2_with fail;exact bodyPost_ret (results_c3t Tryz.results177 _ _ _ _ _ _ _ _ _ _ _ _ _ _ _ rfl rfl rfl rfl hR4.r1 hR4.r2 hR4.r3 Tryz.underlying103 Tryz.underlying43 Tryz.underlying103 rfl rfl rfl (by rw [rowOf_size];exact infoSet) (by rw [rowOf_size];exact vd) (by rw [rowOf_size];exact infoSet)) rfl (HK.out _ _ hHeld.s.below hHeld.k)
theorem Byt.nil:Byt []:=fun _ h=>by cases h
theorem Byt.cons {x:Int} (h:0≤x∧x<256) (k:Byt l):Byt (x::l):=fun y hy=>by
 rcases qu.1 hy with rfl|hy
 ·exact h
 ·exact k y hy
theorem Byt.app {a b:List Int} (h:Byt a) (k:Byt b):Byt (a++b):=fun y hy=>(zd.1 hy).elim (h y) (k y)
theorem vn_byt (k:Nat):∀ n,n≤k→Byt (vn n):=by
 induction k with
 | zero=>intro n h;rw [vn_lt (by omega)];exact Byt.nil.cons (by omega)
 | succ k ih=>
  intro n h;by_cases hn:n<128
  ·rw [vn_lt hn];exact Byt.nil.cons (by omega)
  ·rw [vn_ge hn];exact (ih (n / 128) (by omega)).cons (by omega)
theorem chk_byt (s:ByteArray):Byt (chk s):=by
 have e:∀ n,0≤dig s n∧dig s n<256:=fun n=>by unfold dig outB;omega
 exact Byt.nil.cons (e 2) |>.cons (e 1) |>.cons (e 0)
theorem own_new1 (w:World) (B:Nat) (x:Int) (hB:B≤w.heap.size):OwnB (w.alloc (.cells #[U8 x] 5)) B (.slice (some (Ad w.heap.size 0)) 1 1) [x]:=
 ⟨rfl,.inr ⟨w.heap.size,1,#[U8 x],rfl,hB,heap_alloc_new w _,qb _,by decide,rfl,rfl⟩⟩
theorem OwnB.keep {w:World} (h:OwnB w B v l) (hb:Bel w w'):OwnB w' B v l:=kp h fun g hg=>hb.block g (h.lt g hg).2
theorem opB_len2 (h:OpW o):(opB o).length≤51:=by
 have s1:=(vx 9 o.cl.toNat (by have:=h.cl;omega)).2;have s2:=(vx 9 o.ck.toNat (by have:=h.ck;omega)).2;have s3:=(vx 9 o.st.toNat (by have:=h.st;omega)).2;have s4:=(vx 9 o.rf.toNat (by have:=h.rf;omega)).2;have s5:=(vx 9 o.ch.toNat (by have:=h.ch;omega)).2;have e:(if o.kd=1 then vn o.ch.toNat else []).length≤10:=by split;omega;simp
 simp only [opB,qe,qp];omega
def Tr.txt:Tr→List Int
 | ⟨none⟩=>[0]
 | ⟨some (o,_,l,r)⟩=>1::(chk (strOfNums l.txt)++(chk (strOfNums (2::opB o))++chk (strOfNums r.txt)))
theorem Tr.txt_len (t:Tr):1≤t.txt.length∧t.txt.length≤10:=by
 cases t using Tr.cs<;>simp [Tr.txt,chk]
def Tr.W:Tr→Prop
 | ⟨none⟩=>True
 | ⟨some (o,_,l,r)⟩=>(OpW o∧(o.kd=1∨o.kd=2))∧l.W∧r.W
theorem Tr.W_of:∀ {t:Tr},(∀ x∈t.list,OpW x∧(x.kd=1∨x.kd=2))→t.W
 | ⟨none⟩,_=>trivial
 | ⟨some (o,_,l,r)⟩,h=>⟨h o (by simp [Tr.list]),Tr.W_of fun x hx=>h x (by simp [Tr.list,hx]),Tr.W_of fun x hx=>h x (by simp [Tr.list,hx])⟩
theorem own_sha {w:World} (hE:Env w) (h:OwnB w B v l) (h0:l≠[]) (hb:Byt l) (hl:l.length≤1000):∀ W,Bel w W→Cs 117 #[v] W fun e w'=>e=.returned (.agg (rowOf 32 fun n=>U8 (dig (strOfNums l) n)))∧Bel W w':=by
 intro W hW;obtain ⟨g,cap,rfl,h1,h2,h3⟩:=h.view h0;exact shaB g 0 cap l hb W (hE.below hW).glt (hE.below hW).table (fun i hi=>(hW.cell h2).trans (h3 i hi)) (ql h2 hW.size) (by omega) h1
theorem dshort_own {w:World} (hE:Env w) (h:OwnB w B v l) (h0:l≠[]) (hb:Byt l) (hl:l.length≤1000):Cs 102 #[v] w fun e w'=>e=.returned (.agg #[U8 (dig (strOfNums l) 0),U8 (dig (strOfNums l) 1),U8 (dig (strOfNums l) 2)])∧Bel w w':=dshort_gen v l w (own_sha hE h h0 hb hl)
theorem midB (o:Opn) (h:OpW o):Byt (2::opB o):=by
 refine Byt.cons (by omega) (Byt.cons h.kd ((vn_byt _ _ (qb _)).app ((vn_byt _ _ (qb _)).app ((vn_byt _ _ (qb _)).app ((vn_byt _ _ (qb _)).app ?_)))));split
 ·exact vn_byt _ _ (qb _)
 ·exact Byt.nil
theorem Tr.txt_byt (t:Tr):Byt t.txt:=by
 cases t using Tr.cs with
 | nil=>exact Byt.nil.cons (by omega)
 | node o rk l r=>exact Byt.cons (by omega) ((chk_byt _).app ((chk_byt _).app (chk_byt _)))
theorem middle_any (o:Opn) (ho:OpW o) (hk:o.kd=1∨o.kd=2) (w:World):Cs 178 #[.agg (oC o)] w fun e w'=>∃ v',e=.returned v'∧OwnB w' w.heap.size v' (2::opB o)∧Bel w w':=by
 have b1:Bel w (w.alloc (.cells (oC o) 43)):=(qj _ _).alloc (qb _) _;have hO:=own_new1 (w.alloc (.cells (oC o) 43)) w.heap.size 2 b1.size;have hz:(w.alloc (.cells (oC o) 43)).heap.size=w.heap.size+1:=by simp
 rw [hz] at hO;have b2:=b1.alloc b1.size (.cells #[U8 2] 5);have HA:=kr (appOp_any o ho hk w.heap.size _ [2] _ b2.size (by simp) hO);have HB:=kr (qd b2 hO);clear hO b1 b2 hz;go_enter Tryz.func178,Tryz.ntmps178
 go_wp2_with (first
  | (go_at_call 184;refine HA.out.mono ?_;rintro e w1 ⟨v1,rfl,ho1,r1⟩))
 go_ret;exact ⟨_,rfl,ho1,HB.out.1.trans (r1.below HB.out.2 HB.out.1.size)⟩
theorem of_gen (t:Tr) (v:Value) (w:World) (hv:IsTr w v t) (hE:Env w) (H:∀ W,Bel w W→Cs 103 #[.agg #[v]] W fun e w'=>∃ v',e=.returned v'∧OwnB w' W.heap.size v' t.txt∧Bel W w') :
  Cs 55 #[.agg #[v]] w fun e w'=>e=.returned (.agg #[U8 (dig (strOfNums t.txt) 0),U8 (dig (strOfNums t.txt) 1),U8 (dig (strOfNums t.txt) 2)])∧Bel w w':=by
 obtain ⟨pa,rfl⟩:=hv.ptr;have b1:Bel w (w.alloc (.cells #[.pointer pa] 103)):=(qj _ _).alloc (qb _) _;have b2:=b1.alloc b1.size (.cells #[U8 0,U8 0,U8 0] 50);have hz:(w.alloc (.cells #[.pointer pa] 103)).heap.size=w.heap.size+1:=by simp
 have r2:=RowIs.new (w.alloc (.cells #[.pointer pa] 103)) 50 3 fun _=>U8 0;rw [hz] at r2;have HT:Hid (Calls _ _ _ _ _):=H _ b2;have HS:Hid (∀ W B v',Bel w W→OwnB W B v' t.txt→Cs 102 #[v'] W fun e w'=>e=.returned (.agg #[U8 (dig (strOfNums t.txt) 0),U8 (dig (strOfNums t.txt) 1),U8 (dig (strOfNums t.txt) 2)])∧Bel W w'):=fun W B v' hW hO=>dshort_own (hE.below hW) hO (fun e=>by have:=t.txt_len;rw [e] at this;exact absurd this.1 (by decide)) t.txt_byt (by have:=t.txt_len;omega);have HB:Hid (Bel w _∧RowIs _ (w.heap.size+1) 50 3 fun _=>U8 0):=⟨b2,r2⟩;clear H hv hE b1 b2 r2 hz;generalize strOfNums t.txt=s at *;go_enter Tryz.func55,Tryz.ntmps55
 go_wp2_with (first
  | (go_at_call 103;refine HT.out.mono ?_;rintro e w1 ⟨v1,rfl,ho1,hb1⟩;have B1:=HB.out.1.trans (hb1.mono HB.out.1.size);have R1:=HB.out.2.below hb1 HB.out.2.lt)
  | (go_at_call 102;refine (HS.out _ _ _ B1 ho1).mono ?_;rintro e w2 ⟨rfl,hb2⟩;have B2:=B1.trans (hb2.mono B1.size);have R2:=R1.below hb2 R1.lt)
  | (refine wpList_store_row rfl 50 (.tmp 2) (.tmp 5) rfl (w.heap.size+1) _ rfl rfl _ _ R2 infoDg (by rw [rowOf_size];rfl) (by simp [Value.oneCell']) ?_))
 exact bodyPost_ret (v:=.agg #[U8 (dig s 0),U8 (dig s 1),U8 (dig s 2)]) (results_cell_row Tryz.results55 _ _ (w.heap.size+1) 50 _ (0,0) _ rfl (R2.setRow (fun j=>match j with|0=>U8 (dig s 0)|1=>U8 (dig s 1)|_=>U8 (dig s 2))) Tryz.underlying50 rfl infoDg) rfl ⟨rfl,kn B2 (by omega) _⟩
structure TxtW (w0 W:World) (g:Nat) (p q:Option Addr) (o:Opn) (l r:Tr):Prop where
 below:Bel w0 W
 res:Res3 W g 103 43 p o q
 tl:IsTr W (.pointer p) l
 tr:IsTr W (.pointer q) r
 env:Env W
 own:OwnB W w0.heap.size (.slice (some ⟨g+1+1+1,0,none⟩) 1 1) [1]
theorem TxtW.kept {W:World} {l r:Tr} (h:TxtW w0 W g p q o l r) (hb:Bel W W2):TxtW w0 W2 g p q o l r:=⟨h.below.trans (hb.mono h.below.size),h.res.kept hb,h.tl.below hb,h.tr.below hb,h.env.below hb,h.own.keep hb⟩
theorem TxtW.drew {W:World} {l r:Tr} (h:TxtW w0 W g p q o l r):TxtW w0 W.drew g p q o l r:=h.kept (qj _ _).drew
theorem dgAt (w:World) (s:ByteArray):∀ j u,(u8s (chk s))[j]?=some u→(w.alloc (.cells #[U8 (dig s 0),U8 (dig s 1),U8 (dig s 2)] 50)).cell? (((Ad w.heap.size 0):Addr).add j)=some u:=by
 intro j u h
 match j,h with
 | 0,h=>cases h;exact (cell_of_row _ _ _ _ _ _ (heap_alloc_new w _)).trans rfl
 | 1,h=>cases h;exact (cell_of_row _ _ _ _ _ _ (heap_alloc_new w _)).trans rfl
 | 2,h=>cases h;exact (cell_of_row _ _ _ _ _ _ (heap_alloc_new w _)).trans rfl
theorem wpList_val {P:Program} {ops:Array Oper} {rest:List Oper} {o:Oper} {a:Act} {w:World} {Q:Exit→Act→World→Prop} (hgd:o.guard=none) (v:Value) (hv:(execOp a.eval o).run P w=.ok (.value v) w) (h:wpList P ops Q rest (a.put o.dst v) w):wpList P ops Q (o::rest) a w:=
 wpList_plain hgd fun _ hK=>by
  unfold Oper.wp;rw [hv];exact hK _ _ h
theorem TxtO.next {w wr w9:World} {bv v9:Value} {L:List Int} {s:ByteArray} (h:OwnB wr w.heap.size bv L∧Bel w wr) (hq:w9.ownsRow w.heap.size 5 1 v9 (L.length+3) (u8s L++u8s (chk s))) (hg:(wr.alloc (.cells #[U8 (dig s 0),U8 (dig s 1),U8 (dig s 2)] 50)).grownBy w9 bv.ownBlock) (hat:v9.ownBlock=bv.ownBlock∨v9.ownBlock=some (wr.alloc (.cells #[U8 (dig s 0),U8 (dig s 1),U8 (dig s 2)] 50)).heap.size):OwnB w9 w.heap.size v9 (L++chk s)∧Bel w w9:=by
 refine ⟨by unfold OwnB;rw [qe,xh];exact hq,?_⟩;have b1:=h.2.trans ((kq wr (.cells #[U8 (dig s 0),U8 (dig s 1),U8 (dig s 2)] 50)).mono h.2.size);exact b1.trans ((AppR.refl _ _).grow hg hat |>.below (h.1.keep (kq _ _)) b1.size)
theorem text_any (t:Tr):∀ (v:Value) (w:World),IsTr w v t→t.W→Env w→Cs 103 #[.agg #[v]] w fun e w'=>∃ v',e=.returned v'∧OwnB w' w.heap.size v' t.txt∧Bel w w':=by
 obtain ⟨i0,hi0,hz0,hz1,hz2⟩:=info_parts info5
 induction t using Tr.ind with
 | nil=>
  rintro v w rfl - -;have b1:Bel w (w.alloc (.cells #[.pointer none] 103)):=kq _ _;have HC:=kr (sParts_any .nil (.pointer none) (w.alloc (.cells #[.pointer none] 103)) rfl);have HB:=kr b1;clear b1;go_enter Tryz.func103,Tryz.ntmps103;go_wp2_with (go_at_call 177;refine HC.out.mono ?_;rintro e w1 ⟨hb1,hP⟩;obtain rfl:e=.returned (.tuple #[.agg #[.pointer none],.agg oZ,.agg #[.pointer none],.bool false]):=hP);obtain ⟨hb2,-,hz⟩:=Res3.mk3 w1 103 43 none o0 none;have hb3:=(HB.out.trans (hb1.mono HB.out.size)).trans (hb2.mono (HB.out.trans (hb1.mono HB.out.size)).size);have hO:=own_new1 _ w.heap.size 0 hb3.size;rw [hz] at hO;go_ret;exact ⟨_,rfl,hO,hb3.alloc hb3.size _⟩
 | node o rk l r ihl ihr=>
  rintro v w hv ⟨⟨ho,hk⟩,hwl,hwr⟩ hE;obtain ⟨pa,rfl⟩:=hv.ptr;have b1:Bel w (w.alloc (.cells #[.pointer pa] 103)):=kq _ _;have HC:=kr (sParts_any _ (.pointer pa) _ (hv.below b1));have HB:=kr (qd b1 hE);have HL:Hid (∀ p W,IsTr W (.pointer p) l→Env W→Cs 55 #[.agg #[.pointer p]] W fun e w'=>e=.returned (.agg #[U8 (dig (strOfNums l.txt) 0),U8 (dig (strOfNums l.txt) 1),U8 (dig (strOfNums l.txt) 2)])∧Bel W w'):=fun p W h1 h2=>of_gen l _ W h1 h2 fun W2 hW=>ihl _ W2 (h1.below hW) hwl (h2.below hW);have HR:Hid (∀ p W,IsTr W (.pointer p) r→Env W→Cs 55 #[.agg #[.pointer p]] W fun e w'=>e=.returned (.agg #[U8 (dig (strOfNums r.txt) 0),U8 (dig (strOfNums r.txt) 1),U8 (dig (strOfNums r.txt) 2)])∧Bel W w'):=fun p W h1 h2=>of_gen r _ W h1 h2 fun W2 hW=>ihr _ W2 (h1.below hW) hwr (h2.below hW);have HM:=kr (middle_any o ho hk);have HS:Hid (∀ W B v',Env W→OwnB W B v' (2::opB o)→Cs 102 #[v'] W fun e w'=>e=.returned (.agg #[U8 (dig (strOfNums (2::opB o)) 0),U8 (dig (strOfNums (2::opB o)) 1),U8 (dig (strOfNums (2::opB o)) 2)])∧Bel W w'):=fun W B v' hE hO=>dshort_own hE hO (by simp) (midB o ho) (by have:=opB_len2 ho;simp;omega);have hX:Tr.txt (.node o rk l r)=(([(1:Int)]++chk (strOfNums l.txt))++chk (strOfNums (2::opB o)))++chk (strOfNums r.txt):=by simp [Tr.txt,List.append_assoc]
  rw [hX];generalize strOfNums l.txt=sa at *;generalize strOfNums r.txt=sb at *;generalize strOfNums (2::opB o)=sm at *;clear b1 hv hE ihl ihr hwl hwr ho hk hX;go_enter Tryz.func103,Tryz.ntmps103;go_wp2_with (go_at_call 177;refine HC.out.mono ?_;rintro e w1 ⟨hb1,p,q,hP,hp,hq⟩;obtain rfl:e=.returned (.tuple #[.agg #[.pointer p],.agg (oC o),.agg #[.pointer q],.bool true]):=hP;have HP:=kr (qd (HB.out.1.trans (hb1.mono HB.out.1.size)) (qd hp hq));clear hb1 hp hq);obtain ⟨hb2,x3,hz⟩:=Res3.mk3 w1 103 43 p o q;have hb3:=HP.out.1.trans (hb2.mono HP.out.1.size);have hp:=qd (HP.out.2.1.below hb2) (HP.out.2.2.below hb2);have hE:=HB.out.2;clear HP HC HB hb2;generalize World.alloc (World.alloc (World.alloc w1 _) _) _=W3 at hb3 x3 hz hp ⊢;have hb4:=hb3.alloc hb3.size (.cells #[U8 1] 5);have hO:=own_new1 W3 w.heap.size 1 hb3.size;rw [hz] at hO;have HW:Hid (TxtW w (W3.alloc (.cells #[U8 1] 5)) w1.heap.size p q o l r):=⟨hb4,x3.kept (kq _ _),hp.1.below (kq _ _),hp.2.below (kq _ _),hE.below hb4,hO⟩;clear hb3 x3 hp hE hb4 hO;refine wp_region_held_drew (S:=fun W=>TxtW w W w1.heap.size p q o l r) (by kernel_rfl) HW.out.drew (fun hHeld=>?_);clear HW hz;generalize World.drew _=wD at hHeld ⊢;refine x9 0 21 (fun _ h=>h.res.c1) ?_;refine x9 2 23 (fun _ h=>h.res.c2) ?_;refine x9 5 26 (fun _ h=>h.res.c3) ?_;refine ks 8 29 ?_;refine rd 1 (some 22) rfl (fun K hK=>?_);go_simp;refine (HL.out _ _ hHeld.tl hHeld.env).mono ?_;rintro e w2 ⟨rfl,hb2⟩;refine hK.out _ _ (hHeld.kept hb2) (fun hHeld=>?_);clear hK K hb2;refine rd 3 (some 24) rfl (fun K hK=>?_);go_simp;refine (HM.out _).mono ?_;rintro e w3 ⟨v3,rfl,ho3,hb3⟩;refine hK.out _ _ (hHeld.kept hb3) (fun hHeld=>?_);clear hK K hb3;refine rd 4 (some 25) rfl (fun K hK=>?_);go_simp;refine (HS.out _ _ _ hHeld.env ho3).mono ?_;rintro e w4 ⟨rfl,hb4⟩;refine hK.out _ _ (hHeld.kept hb4) (fun hHeld=>?_);clear hK K hb4 ho3;refine rd 6 (some 27) rfl (fun K hK=>?_);go_simp;refine (HR.out _ _ hHeld.tr hHeld.env).mono ?_;rintro e w5 ⟨rfl,hb5⟩;refine hK.out _ _ (hHeld.kept hb5) (fun hHeld=>?_);clear hK K hb5;refine ks 7 28 ?_;refine xy ?_;have HO0:=kr (qd hHeld.own hHeld.below);clear hHeld HL HM HS HR;go_wp2_with fail;go_loopw [29,7] (fun iv bv wr=>∃ u:Value,bv=u∧((iv=I6 0∧Hid (OwnB wr w.heap.size u ([(1:Int)])∧Bel w wr))∨(iv=I6 1∧Hid (OwnB wr w.heap.size u ([(1:Int)]++chk sa)∧Bel w wr))∨(iv=I6 2∧Hid (OwnB wr w.heap.size u (([(1:Int)]++chk sa)++chk sm)∧Bel w wr))∨(iv=I6 3∧Hid (OwnB wr w.heap.size u ((([(1:Int)]++chk sa)++chk sm)++chk sb)∧Bel w wr)))) (fun iv _ _=>(3-intOf iv).toNat)
  case atStart=>exact ⟨_,rfl,Or.inl ⟨rfl,HO0⟩⟩
  case round=>
   obtain ⟨u,hu,hrel⟩:=hrel;obtain rfl:=hu.symm;clear HO0 hu;rcases hrel with ⟨rfl,HO⟩|⟨rfl,HO⟩|⟨rfl,HO⟩|⟨rfl,HO⟩
   ·go_upto_region 7 with fail;refine wp_region_lit ?_;refine wpList_val rfl (.agg #[U8 (dig sa 0),U8 (dig sa 1),U8 (dig sa 2)]) (by go_simp;kernel_rfl) ?_;go_wp2_with (at_builtin;refine wpList_append_own_at _ rfl (.tmp 32) (.tmp 33) 59 rfl w.heap.size 5 i0 (U8 0) 1 1 Tryz.underlying59 hi0 hz0 hz1 hz2 rfl (by decide) u ([(1:Int)]).length (u8s ([(1:Int)])) rfl (HO.out.1.keep (kq _ _)).row (Ad wr.heap.size 0) 3 3 (u8s (chk sa)) rfl rfl (dgAt wr sa) (xq _) (by unfold maxLen;simp) (by simp) (qi HO.out.2.size (by simp)) ?_;intro v9 w9 hq9 hg9 _ hat9;have H9:=kr (TxtO.next HO.out hq9 hg9 hat9));go_roundw
    case rel=>exact ⟨_,rfl,Or.inr (Or.inl ⟨by go_num,H9⟩)⟩
    case measure=>simp [intOf]
   ·go_upto_region 7 with fail;refine wp_region_lit ?_;refine wpList_val rfl (.agg #[U8 (dig sm 0),U8 (dig sm 1),U8 (dig sm 2)]) (by go_simp;kernel_rfl) ?_;go_wp2_with (at_builtin;refine wpList_append_own_at _ rfl (.tmp 32) (.tmp 33) 59 rfl w.heap.size 5 i0 (U8 0) 1 1 Tryz.underlying59 hi0 hz0 hz1 hz2 rfl (by decide) u ([(1:Int)]++chk sa).length (u8s ([(1:Int)]++chk sa)) rfl (HO.out.1.keep (kq _ _)).row (Ad wr.heap.size 0) 3 3 (u8s (chk sm)) rfl rfl (dgAt wr sm) (xq _) (by unfold maxLen;simp [chk]) (by simp [chk]) (qi HO.out.2.size (by simp)) ?_;intro v9 w9 hq9 hg9 _ hat9;have H9:=kr (TxtO.next HO.out hq9 hg9 hat9));go_roundw
    case rel=>exact ⟨_,rfl,Or.inr (Or.inr (Or.inl ⟨by go_num,H9⟩))⟩
    case measure=>simp [intOf]
   ·go_upto_region 7 with fail;refine wp_region_lit ?_;refine wpList_val rfl (.agg #[U8 (dig sb 0),U8 (dig sb 1),U8 (dig sb 2)]) (by go_simp;kernel_rfl) ?_;go_wp2_with (at_builtin;refine wpList_append_own_at _ rfl (.tmp 32) (.tmp 33) 59 rfl w.heap.size 5 i0 (U8 0) 1 1 Tryz.underlying59 hi0 hz0 hz1 hz2 rfl (by decide) u (([(1:Int)]++chk sa)++chk sm).length (u8s (([(1:Int)]++chk sa)++chk sm)) rfl (HO.out.1.keep (kq _ _)).row (Ad wr.heap.size 0) 3 3 (u8s (chk sb)) rfl rfl (dgAt wr sb) (xq _) (by unfold maxLen;simp [chk]) (by simp [chk]) (qi HO.out.2.size (by simp)) ?_;intro v9 w9 hq9 hg9 _ hat9;have H9:=kr (TxtO.next HO.out hq9 hg9 hat9));go_roundw
    case rel=>exact ⟨_,rfl,Or.inr (Or.inr (Or.inr ⟨by go_num,H9⟩))⟩
    case measure=>simp [intOf]
   ·go_wp2_with fail;go_ret;exact ⟨_,rfl,HO.out.1,HO.out.2⟩

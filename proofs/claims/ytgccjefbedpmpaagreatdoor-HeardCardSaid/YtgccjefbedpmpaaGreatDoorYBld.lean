import Derived.Test.YtgccjefbedpmpaaGreatDoorYMem
import Derived.Shelf.Small.Bits
import Derived.Shelf.Strings.BuilderK
import Derived.Shelf.Utf8.AppendRune
namespace Go.Proofs.YtgccjefbedpmpaaGreatDoor
open Go.Shelf Go.RowKit
set_option maxRecDepth 100000
set_option maxHeartbeats 8000000
variable {B n : Nat} {v : Value} {xs : List Value}
def sh_lays169_ren:Go.Shelf.Ren:=⟨fun|169=>176|n=>n,fun|70=>242|9=>9|0=>0|72=>244|37=>59|127=>323|3=>3|5=>5|n=>n,fun|n=>n⟩
theorem sh_lays169:Go.Proofs.Lays.n169 Tryz.prog sh_lays169_ren:={
 mixed:=by kernel_rfl
 f169:=Tryz.func176.trans (congrArg some (by kernel_rfl))
 t0:=Tryz.underlying0
 a0:=Tryz.isAgg0
 z0:=Tryz.sizeOf0
 v0:=Tryz.zeroValue0
 t3:=Tryz.underlying3
 a3:=Tryz.isAgg3
 z3:=Tryz.sizeOf3
 v3:=Tryz.zeroValue3
 t9:=Tryz.underlying9
 a9:=Tryz.isAgg9
 z9:=Tryz.sizeOf9
 v9:=Tryz.zeroValue9
 t37:=Tryz.underlying59
 a37:=Tryz.isAgg59
 z37:=Tryz.sizeOf59
 v37:=Tryz.zeroValue59
 t70:=Tryz.underlying242
 a70:=Tryz.isAgg242
 z70:=Tryz.sizeOf242
 v70:=Tryz.zeroValue242
 t72:=Tryz.underlying244
 a72:=Tryz.isAgg244
 z72:=Tryz.sizeOf244
 v72:=Tryz.zeroValue244
 t127:=Tryz.underlying323
 a127:=Tryz.isAgg323
 z127:=Tryz.sizeOf323
 v127:=Tryz.zeroValue323 }
theorem sh_Builder_Extra_169:Builder.Extra Tryz.prog sh_lays169_ren:={
 sizeBuilder:=by kernel_rfl
 liesBuilder:=by kernel_rfl
 t5:=Tryz.underlying5
 a5:=Tryz.isAgg5
 z5:=Tryz.sizeOf5
 v5:=Tryz.zeroValue5
 infoByte:=by kernel_rfl
 cellsByte:=by kernel_rfl
 sizeByte:=by kernel_rfl
 neB5:=by decide }
def sh_lays125_ren:Go.Shelf.Ren:=⟨fun|125=>267|128=>301|129=>302|n=>n,fun|46=>251|3=>3|51=>39|53=>41|4=>4|5=>5|9=>9|n=>n,fun|n=>n⟩
theorem sh_lays125:Go.Proofs.Lays.n125 Tryz.prog sh_lays125_ren:={
 mixed:=by kernel_rfl
 f125:=Tryz.func267.trans (congrArg some (by kernel_rfl))
 f128:=Tryz.func301.trans (congrArg some (by kernel_rfl))
 f129:=Tryz.func302.trans (congrArg some (by kernel_rfl))
 t3:=Tryz.underlying3
 a3:=Tryz.isAgg3
 z3:=Tryz.sizeOf3
 v3:=Tryz.zeroValue3
 t4:=Tryz.underlying4
 a4:=Tryz.isAgg4
 z4:=Tryz.sizeOf4
 v4:=Tryz.zeroValue4
 t5:=Tryz.underlying5
 a5:=Tryz.isAgg5
 z5:=Tryz.sizeOf5
 v5:=Tryz.zeroValue5
 t9:=Tryz.underlying9
 a9:=Tryz.isAgg9
 z9:=Tryz.sizeOf9
 v9:=Tryz.zeroValue9
 t46:=Tryz.underlying251
 a46:=Tryz.isAgg251
 z46:=Tryz.sizeOf251
 v46:=Tryz.zeroValue251
 t51:=Tryz.underlying39
 a51:=Tryz.isAgg39
 z51:=Tryz.sizeOf39
 v51:=Tryz.zeroValue39
 t53:=Tryz.underlying41
 a53:=Tryz.isAgg41
 z53:=Tryz.sizeOf41
 v53:=Tryz.zeroValue41 }
theorem sh_bits_Len (x:Int) (w:World) (h0:0≤x) (h1:x≤18446744073709551615) :
  Cs 267 #[U6 x] w fun e w'=>e=.returned (I6 (Lib.bitLen x.toNat))∧w'=w:=Any.bits_Len sh_lays125 x w h0 h1
theorem sh_Builder_String_any_k (B b:Nat) (l:List UInt8) (w:World) (h:Lib.IsBuilderF 244 5 B b (Lib.byteCells l) w) (hBw:B≤w.heap.size) :
  Cs 176 #[(pt b 0)] w fun e w'=>e=.returned (.string ⟨l.toArray⟩)∧(Lib.IsBuilderF 244 5 B b (Lib.byteCells l) w'∧Below B w w'∧Lib.OthersKept 5 (some b) w w'):=Any.Builder_String_any_k sh_lays169 sh_Builder_Extra_169 B b l w h hBw
def sh_lays242_ren:Go.Shelf.Ren:=⟨fun|242=>238|278=>276|n=>n,fun|37=>59|21=>21|51=>39|4=>4|5=>5|46=>251|n=>n,fun|n=>n⟩
theorem sh_lays242:Go.Proofs.Lays.n242 Tryz.prog sh_lays242_ren:={
 mixed:=by kernel_rfl
 f242:=Tryz.func238.trans (congrArg some (by kernel_rfl))
 f278:=Tryz.func276.trans (congrArg some (by kernel_rfl))
 t4:=Tryz.underlying4
 a4:=Tryz.isAgg4
 z4:=Tryz.sizeOf4
 v4:=Tryz.zeroValue4
 t5:=Tryz.underlying5
 a5:=Tryz.isAgg5
 z5:=Tryz.sizeOf5
 v5:=Tryz.zeroValue5
 t21:=Tryz.underlying21
 a21:=Tryz.isAgg21
 z21:=Tryz.sizeOf21
 v21:=Tryz.zeroValue21
 t37:=Tryz.underlying59
 a37:=Tryz.isAgg59
 z37:=Tryz.sizeOf59
 v37:=Tryz.zeroValue59
 t46:=Tryz.underlying251
 a46:=Tryz.isAgg251
 z46:=Tryz.sizeOf251
 v46:=Tryz.zeroValue251
 t51:=Tryz.underlying39
 a51:=Tryz.isAgg39
 z51:=Tryz.sizeOf39
 v51:=Tryz.zeroValue39 }
theorem sh_utf8_AppendRune_row (B:Nat) (v:Value) (n:Nat) (xs:List Value) (r:Int) (hr0:-2147483648≤r) (hr1:r≤2147483647) (w:World) (hown:w.ownsRowF B 5 1 v n xs) (hlen:n+4≤140737488355328) (hBw:B≤w.heap.size) :
  Cs 238 #[v,I3 r] w fun e w'=>∃ v',e=.returned v'∧w'.ownsRowF B 5 1 v' (n+(Lib.runeCells r).length) (xs++Lib.runeCells r)∧∃ o,(w.alloc o).grownBy w' v.ownBlock:=Any.utf8_AppendRune_row sh_lays242 (by kernel_rfl) B v n xs r hr0 hr1 w hown hlen hBw
theorem infoBld:(Tryz.prog.info? 244).map (·.size)=some 2:=by kernel_rfl
theorem copyCheck_any (B b:Nat) (bs:List Value) (w:World) (h:Lib.IsBuilderF 244 5 B b bs w) :
  Cs 237 #[(pt b 0)] w fun e w'=>e=.returned (.tuple #[])∧(Lib.BuilderAtF 244 5 B b ((pt b 0)) bs w'∧Below B w w'∧Lib.OthersKept 5 (some b) w w'):=by
 rcases h with h|h
 ·have c0:=h.cell0;have f0:=h.frozen0;have s0:=h.shape;obtain ⟨j,hj,hjs⟩:=yp.1 infoBld;have HH:Hid (Lib.BuilderAtF 244 5 B b (.pointer none) bs w):=h;clear h;go_enter Tryz.func237,Tryz.ntmps237;go_wp2;rw [Lib.run_to_unsafe w (Ad b 0) Tryz.underlying242 Tryz.underlying225 hj (by rw [hjs];decide) s0 (Nat.zero_lt_succ 1)];simp only [Result.andThen];rw [Oper.upon_value];go_wp2;rw [run_callFunc_extern Tryz.func275 (by kernel_rfl) (by kernel_rfl) (by kernel_rfl) (e:=Extern.AbiNoEscape.same) (by kernel_rfl)];rw [Lib.run_noEscape];simp only [Result.andThen];rw [Oper.upon_value];go_wp2;rw [Lib.run_from_unsafe w (Ad b 0) Tryz.underlying225 Tryz.underlying242 hj s0 sh_Builder_Extra_169.liesBuilder];simp only [Result.andThen];rw [Oper.upon_value];go_wp2;go_end0;exact ⟨rfl,HH.out.used _,(qj B w).setCell (p:=(Ad b 0)) HH.out.1 _,(Lib.OthersKept.refl _ _ w).setCell (Ad b 0) rfl _⟩
 ·have c0:=h.cell0;obtain ⟨j,hj,hjs⟩:=yp.1 infoBld;have HH:Hid (Lib.BuilderAtF 244 5 B b ((pt b 0)) bs w):=h;clear h;go_enter Tryz.func237,Tryz.ntmps237;go_wp2;rw [Lib.run_neq_ptr_same w _ Tryz.underlying242 hj];go_wp2;go_end0;exact ⟨rfl,HH.out,qj B _,Lib.OthersKept.refl _ _ _⟩
theorem rowF_form {w:World} {e:TypeId} (h:w.ownsRowF B e 1 v n xs):∃ a c,v=.slice a n c:=by
 rcases h.2 with ⟨rfl,rfl⟩|⟨g,cap,cur,fz,rfl,_⟩
 ·exact ⟨_,_,rfl⟩
 ·exact ⟨_,_,rfl⟩
theorem rowF_type {w:World} {e:TypeId} (h:w.ownsRowF B e 1 v n xs) (k:Nat) (hk:v.ownBlock=some k):∃ c fz,w.heap[k]?=some (.cells c e fz):=by
 rcases h.2 with ⟨rfl,rfl⟩|⟨g,cap,cur,fz,rfl,_,hg,_⟩
 ·cases hk
 ·cases hk;exact ⟨_,_,hg⟩
theorem belowGrown {w w2:World} {o:Obj} {row:Option Nat} (hB:B≤w.heap.size) (hg:(w.alloc o).grownBy w2 row) (hr:∀ k,row=some k→B≤k):Below B w w2:=
 ((qj B w).alloc hB o).trans ⟨hg.os,hg.tape,hg.output,hg.size,fun k hk=>hg.block k (by simp;omega) (fun e=>by have:=hr k e.symm;omega)⟩
theorem writeRune_any (B b:Nat) (bs:List Value) (r:Int) (hr0:-2147483648≤r) (hr1:r≤2147483647) (w:World) (h:Lib.IsBuilderF 244 5 B b bs w) (hlen:bs.length+4≤140737488355328) (hBw:B≤w.heap.size) :
  Cs 175 #[(pt b 0),I3 r] w fun e w'=>(∃ v,e=.returned v)∧(Lib.BuilderAtF 244 5 B b ((pt b 0)) (bs++Lib.runeCells r) w'∧Below B w w'∧Lib.OthersKept 5 (some b) w w'):=by
 have HC:Hid (Calls _ _ _ _ _):=copyCheck_any B b bs w h;have HL:Hid (B≤w.heap.size∧bs.length+4≤140737488355328):=⟨hBw,hlen⟩;clear h hBw hlen;go_enter Tryz.func175,Tryz.ntmps175
 go_wp2_with (first
  | (go_at_call 237;refine HC.out.mono ?_;rintro e w1 ⟨rfl,h1,hb1,ho1⟩;obtain ⟨hBb,v,hv,hown,hvb⟩:=h1;obtain ⟨a,c,rfl⟩:=rowF_form hown;have c1:w1.cell? (Ad b 1)=some (.slice a bs.length c):=(cell_of_row _ _ _ _ _ _ hv).trans rfl)
  | (go_at_call 238;refine (sh_utf8_AppendRune_row B _ _ bs r hr0 hr1 w1 hown (by have:=HL.out;omega) (by have:=HL.out;have:=hb1.size;omega)).mono ?_;rintro e w2 ⟨v',rfl,hown',o,hg⟩;obtain ⟨a',c',rfl⟩:=rowF_form hown';have hv2:w2.heap[b]?=some (.cells #[(pt b 0),.slice a bs.length c] 244 (0,0)):=(hg.block b (by simp;exact Nat.lt_succ_of_lt (zf.1 hv).1) (fun e=>hvb e.symm)).trans ((xw (zf.1 hv).1).trans hv);have c2:w2.cell? (Ad b 1)=some (.slice a bs.length c):=(cell_of_row _ _ _ _ _ _ hv2).trans rfl;have f2:w2.frozen? (Ad b 1)=false:=frozen_of_row _ _ _ _ _ hv2))
 go_ret2;have hB1:=hb1.size;have hlb:=(zf.1 hv).1;refine ⟨⟨_,rfl⟩,?_,?_,?_⟩
 ·have:=Lib.BuilderAtF.put (bs':=bs++Lib.runeCells r) hBb hv2 (by rw [qe];exact hown') (by decide);exact this
 ·refine Below.setCell ?_ (p:=(Ad b 1)) hBb _;refine hb1.trans (belowGrown (by have:=HL.out.1;omega) hg fun k hk=>(hown.lt k hk).1)
 ·refine Lib.OthersKept.setCell ?_ (Ad b 1) rfl _;refine (ho1.alloc o).grown hg fun g hg'=>?_;obtain ⟨cc,fz,hh⟩:=rowF_type hown g hg';exact ⟨cc,fz,(xw (zf.1 hh).1).trans hh⟩

import Derived.Test.YtgccjefbedpmpaaGreatDoorYWPack
import Derived.RangeFuncNested
import Derived.RangeFuncBound
import Derived.RangeFuncCalls
import Derived.RangeFuncLeaves
import Derived.Shelf.Abstract
import Derived.Shelf.RegionOpen
import Derived.OwnWalkIn
import Derived.TacticsInMore
import Derived.LoopNIn
import Derived.LoopIn
import Derived.RangeFuncBox
namespace Go.Proofs.YtgccjefbedpmpaaGreatDoor
open Go.RowKit Go.Shelf
set_option maxRecDepth 100000
set_option maxHeartbeats 8000000
variable {l m : Nat}
section
attribute [local go_sem] Oper.semAt_some
theorem room_none {F:Fence} (hd:F.depth=none) (k:Nat):F.room k:=fun d h=>by rw [hd] at h;cases h
theorem round_any {F:Fence} (hd:F.depth=none) {m':Nat} {P:Program} {f:FuncId} {tmps:Array Value} {assign body:Code} {w:World} {R:Ending→World→Prop}
  (h:RoundIn F m P l f tmps assign body w R):RoundIn F m' P l f tmps assign body w R:=⟨h.1,fun c cs _=>h.2 c cs (room_none hd _)⟩
theorem yield_any {F:Fence} (hd:F.depth=none) (m':Nat) {P:Program} {args:Array Value} {W:World} {R:Ending→World→Prop} (h:YieldAt F m P l args W R):YieldAt F m' P l args W R:=by
 obtain ⟨fn,tmps,assign,body,hy,hR⟩:=h;exact ⟨fn,tmps,assign,body,hy,round_any hd hR⟩
theorem each_in (F:Fence) (hd:F.depth=none) (h6:F.fn 236) (hro:F.round=none) (l N:Nat) (w:World) (J Jx:List Opn→World→Prop)
  (hY:∀ m pre x W,J pre W→pre.length<N→YieldAt F m Tryz.prog l #[.agg (oC x)] W fun e W'=>
   (e=.returned (.bool true)∧J (pre++[x]) W'∧Below w.heap.size W W')∨(e=.returned (.bool false)∧Jx (pre++[x]) W')) (T:Tr) :
  ∀ (n:Nat) (v:Value) (pre:List Opn) (W:World),IsTr w v T→Bel w W→J pre W→pre.length+T.list.length≤N →
   CallsIn F n Tryz.prog 236 #[v,.func (.yield l) #[] #[]] W fun e W'=>
    (e=.returned (.bool true)∧J (pre++T.list) W'∧Bel w W')∨(e=.returned (.bool false)∧∃ q,q <+: T.list∧Jx (pre++q) W'):=by
 induction T using Tr.ind with
 | nil=>
  intro n v pre W ht hW hJ _;obtain rfl:v=.pointer none:=ht;refine callsIn_of_wp Tryz.func236 rfl h6 ?_ hro;simp only [Tryz.ntmps236,ya,qp,qv,Nat.reduceAdd,Nat.reduceSub,yi,yh,kb,yn,zw,jn]
  gi_wp2
  ·exfalso
   simp_all [undef]
  ·refine ⟨fun _ h=>(by cases h),?_⟩
   gi_wp2
   go_ret;exact .inl ⟨rfl,by simpa [Tr.list] using hJ,hW⟩
  ·refine ⟨fun _ h=>(by cases h),?_⟩
   gi_wp2
   go_ret;exact .inl ⟨rfl,by simpa [Tr.list] using hJ,hW⟩
 | node x rk tl tr ihl ihr=>
  intro n v pre W ht hW hJ hN;obtain ⟨b,vl,vr,rfl,hrow,hl,hr⟩:=ht;obtain ⟨pl,rfl⟩:=hl.ptr;obtain ⟨pr,rfl⟩:=hr.ptr;have hn:∀ W1,Bel w W1→NodeIs w W1 b x rk (.pointer pl) (.pointer pr):=fun W1 h=>⟨h,hrow.below h hrow.lt⟩;obtain ⟨c0,c1,c2,c3,c4,c5⟩:=(hn W hW).op;have c7:=(hn W hW).c7;have c8:=(hn W hW).c8;have hdd:∀ k:Nat,(F.depth.isSome=true→1≤k):=fun k h=>by rw [hd] at h;cases h
  simp only [Tr.list,qe,qp] at hN
  have hy2:∀ W1,J (pre++tl.list) W1→Bel w W1→YieldAt F (n-1) Tryz.prog l #[.agg (oC x)] W1 fun e W2=>
    (e=.returned (.bool true)∧J (pre++tl.list++[x]) W2∧Bel w W2∧W2.cell? (Ad b 8)=some (.pointer pr))∨(e=.returned (.bool false)∧Jx (pre++tl.list++[x]) W2):=fun W1 hJ1 hb1=>
   YieldAt.mono (hY (n-1) _ x W1 hJ1 (by simp;omega)) fun e W2 h=>h.elim
    (fun ⟨he,hj,hb2⟩=>.inl ⟨he,hj,hb1.trans hb2,(hn W2 (hb1.trans hb2)).c8⟩) .inr
  have ih1:=(ihl (n-1) (.pointer pl) pre W hl hW hJ (by omega)).mono (R':=fun e W1=>
    (e=.returned (.bool true)∧(W1.cell? (Ad b 0)=some (I6 x.kd)∧W1.cell? (Ad b 1)=some (U3 x.cl)∧W1.cell? (Ad b 2)=some (U3 x.ck)∧W1.cell? (Ad b 3)=some (U3 x.st)∧W1.cell? (Ad b 4)=some (U6 x.rf)∧W1.cell? (Ad b 5)=some (I3 x.ch))∧YieldAt F (n-1) Tryz.prog l #[.agg (oC x)] W1 fun e W2=>
     (e=.returned (.bool true)∧J (pre++tl.list++[x]) W2∧Bel w W2∧W2.cell? (Ad b 8)=some (.pointer pr))∨(e=.returned (.bool false)∧Jx (pre++tl.list++[x]) W2)) ∨
    (e=.returned (.bool false)∧∃ q,q <+: tl.list∧Jx (pre++q) W1))
   (fun e W1 h=>h.elim (fun ⟨he,hj,hb1⟩=>.inl ⟨he,(hn W1 hb1).op,hy2 W1 hj hb1⟩) .inr)
  have HR:Hid (∀ W2,Bel w W2→J (pre++tl.list++[x]) W2→CallsIn F (n-1) Tryz.prog 236 #[.pointer pr,.func (.yield l) #[] #[]] W2 fun e W'=>(e=.returned (.bool true)∧J (pre++tl.list++[x]++tr.list) W'∧Bel w W')∨(e=.returned (.bool false)∧∃ q,q <+: tr.list∧Jx (pre++tl.list++[x]++q) W')):=fun W2 hb hj=>ihr (n-1) (.pointer pr) _ W2 hr hb hj (by simp;omega);clear hy2 ihl ihr hn hrow hl hr;refine callsIn_of_wp Tryz.func236 rfl h6 ?_ hro;simp only [Tryz.ntmps236,ya,qp,qv,Nat.reduceAdd,Nat.reduceSub,yi,yh,kb,yn,zw,jn]
  gi_wp2_with (first
   | ((try refine ⟨hdd _,?_⟩);gi_at_call 236;refine ih1.mono ?_;clear ih1;rintro e W1 (⟨rfl,⟨d0,d1,d2,d3,d4,d5⟩,fn,tmps,assign,body,hy,hR⟩|⟨rfl,q,hq,hx1⟩))
   | ((try refine ⟨hdd _,?_⟩);refine hR.mono ?_;clear hR;rintro e W2 (⟨rfl,hJ2,hb2,c8'⟩|⟨rfl,hx2⟩))
   | ((try refine ⟨hdd _,?_⟩);gi_at_call 236;refine (HR.out _ hb2 hJ2).mono ?_;rintro e W3 (⟨rfl,hJ3,hb3⟩|⟨rfl,q,hq,hx3⟩)))
  ·go_ret;exact .inl ⟨rfl,by simpa [Tr.list,qr] using hJ3,hb3⟩
  ·go_ret;obtain ⟨r,hr'⟩:=hq;exact .inr ⟨rfl,tl.list++x::q,⟨r,by simp [Tr.list,← hr']⟩,by simpa [qr] using hx3⟩
  ·go_ret;exact .inr ⟨rfl,tl.list++[x],⟨tr.list,by simp [Tr.list]⟩,by simpa [qr] using hx2⟩
  ·refine ⟨fun _ h=>(by cases h),?_⟩
   gi_wp2
   go_ret;exact .inr ⟨rfl,q,hq.trans (by simp [Tr.list]),hx1⟩
theorem all1_in (F:Fence) (hd:F.depth=none) (n:Nat) (h5:F.fn 235) (h6:F.fn 236) (hro:F.round=none) (l Bt:Nat) (w:World) (v:Value) (T:Tr) (J Jx:List Opn→World→Prop)
  (hY:∀ pre x W,J pre W→pre.length<T.list.length→YieldAt F (n-1) Tryz.prog l #[.agg (oC x)] W fun e W'=>
   (e=.returned (.bool true)∧J (pre++[x]) W'∧Below w.heap.size W W')∨(e=.returned (.bool false)∧Jx (pre++[x]) W'))
  (W:World) (hBt:W.cell? (Ad Bt 0)=some v) (hT:IsTr w v T) (hW:Bel w W) (h0:J [] W) :
  CallsIn F n Tryz.prog 235 #[.func (.yield l) #[] #[],(pt Bt 0)] W fun e W'=>(∃ v,e=.returned v) ∧
   ((∃ ys,ys=T.list∧J ys W')∨(∃ pre,pre <+: T.list∧Jx pre W')):=by
 have hdd:∀ k:Nat,(F.depth.isSome=true→1≤k):=fun k h=>by rw [hd] at h;cases h
 have hp:=each_in F hd h6 hro l T.list.length w J Jx (fun m pre x W hj hl=>yield_any hd m (hY pre x W hj hl)) T (n-1) v [] W hT hW h0 (by simp);obtain ⟨p0,rfl⟩:=hT.ptr;refine callsIn_of_wp Tryz.func235 rfl h5 ?_ hro;simp only [Tryz.ntmps235,ya,qp,qv,Nat.reduceAdd,Nat.reduceSub,yi,yh,kb,yn,zw,jn]
 gi_wp2_with ((try refine ⟨hdd _,?_⟩);gi_at_call 236;refine hp.mono ?_;clear hp;rintro e W1 (⟨rfl,hJ1,_⟩|⟨rfl,q,hq,hx⟩))
 ·go_end0;exact ⟨⟨_,rfl⟩,.inl ⟨_,rfl,by simpa using hJ1⟩⟩
 ·go_end0;exact ⟨⟨_,rfl⟩,.inr ⟨q,hq,by simpa using hx⟩⟩
theorem all_in (F:Fence) (n:Nat) (h4:F.fn 174) (hro:F.round=none) (p0:Option Addr) (w:World) :
  CallsIn F n Tryz.prog 174 #[.agg #[.pointer p0]] w fun e w'=>e=.returned (.func (.func 235) #[] #[(pt w.heap.size 0)])∧w'=w.alloc (.cells #[.pointer p0] 101):=by
 refine callsIn_of_wp Tryz.func174 rfl h4 ?_ hro;simp only [Tryz.ntmps174,ya,qp,qv,Nat.reduceAdd,Nat.reduceSub,yi,yh,kb,yn,zw,jn]
 gi_wp2
 go_ret;exact ⟨rfl,rfl⟩
theorem all_stops (F:Fence) (hd:F.depth=none) (n:Nat) (h5:F.fn 235) (h6:F.fn 236) (hro:F.round=none) (Bt:Nat) (v:Value) (T:Tr) (w w1:World) (hw:Bel w w1) (hBt:Bt<w1.heap.size)
  (hc:w1.cell? (Ad Bt 0)=some v) (hT:IsTr w v T) :
  SeqStopsK F n Tryz.prog 235 #[(pt Bt 0)] (fun x:Opn=>#[Value.agg (oC x)]) (Below w.heap.size) (fun ys=>ys=T.list) (fun pre=>pre <+: T.list) T.list.length w1:=fun l J Jx W hW _ _ hY h0=>
 all1_in F hd n h5 h6 hro l Bt w v T J Jx hY W ((hW.cell (p:=(Ad Bt 0)) hBt).trans hc) hT (hw.trans (hW.mono hw.size)) h0
end
section
attribute [local go_sem] Oper.semAt_some
theorem row_own {X Y:World} {row:Option Nat} {b n:Nat} {t:TypeId} {f:Nat→Value} (h:RowIs X b t n f) (hg:X.grownBy Y row) (hr:∀ r,row=some r→∃ o:Obj,X.heap[r]?=some o∧o.isCells=false):RowIs Y b t n f:=by
 unfold RowIs;rw [hg.block b h.lt fun e=>?_]
 ·exact h
 ·obtain ⟨o,ho,hc⟩:=hr b e.symm;rw [show X.heap[b]?=_ from h] at ho;cases ho;cases hc
theorem sOps_any (T:Tr) (v:Value) (w:World) (hT:IsTr w v T) (hs:T.list.length≤1000000):Cs 100 #[.agg #[v]] w fun e w'=>(∃ s,e=.returned s∧OwnO w' w.heap.size s T.list)∧Bel w w':=by
 obtain ⟨p0,rfl⟩:=hT.ptr;refine (callsIn_wide (n:=6)).1 ?_;have hd:Fence.wide.depth=none:=rfl;have hro:Fence.wide.round=none:=rfl;have h5:Fence.wide.fn 235:=trivial;have h6:Fence.wide.fn 236:=trivial;have h4:Fence.wide.fn 174:=trivial;have h3:Fence.wide.fn 100:=trivial;obtain ⟨io,oi,oz0,oz1,oz2⟩:=info_parts infoO;refine callsIn_of_wp_marks Tryz.func100 rfl h3 ?_ hro;simp only [Tryz.ntmps100,ya,qp,qv,Nat.reduceAdd,Nat.reduceSub,yi,yh,kb,yn,zw,jn]
 gi_wp2_with (gi_at_call 174;refine (all_in Fence.wide 5 h4 hro _ _).mono ?_;rintro e w' ⟨rfl,rfl⟩)
 have bA:=Boxed.new ((w.alloc (.cells #[.pointer p0] 103)).alloc (.cells #[.slice none 0 0] 32)) 101 (.pointer p0);have bS:=(Boxed.new (w.alloc (.cells #[.pointer p0] 103)) 32 (.slice none 0 0)).alloc (.cells #[.pointer p0] 101);simp only [World.size_alloc] at bS bA;have hB0:Bel w (((w.alloc (.cells #[.pointer p0] 103)).alloc (.cells #[.slice none 0 0] 32)).alloc (.cells #[.pointer p0] 101)):=(((qj _ w).alloc (qb _) _).alloc (by simp) _).alloc (by simp;omega) _;have hsz:(((w.alloc (.cells #[.pointer p0] 103)).alloc (.cells #[.slice none 0 0] 32)).alloc (.cells #[.pointer p0] 101)).heap.size=w.heap.size+3:=by simp
 obtain ⟨Wz,hWz⟩:∃ Wz,(((w.alloc (.cells #[.pointer p0] 103)).alloc (.cells #[.slice none 0 0] 32)).alloc (.cells #[.pointer p0] 101))=Wz:=⟨_,rfl⟩;rw [hWz] at bS bA hB0 hsz ⊢;clear hWz
 refine wpIn_rangeFunc_ownH hro (by decide) (gf:=235) (lb:=#[.pointer (some ⟨w.heap.size+1+1,0,none⟩)]) rfl h5 (enters_of Tryz.func235 (by kernel_rfl) rfl)
  (all_stops Fence.wide hd 5 h5 h6 hro (w.heap.size+1+1) (.pointer p0) T w Wz hB0 (by omega) bA.cell hT) belowK_t (belowK_b (by omega)) (qj _ _) (fun _=>rfl)
  (fun pre W=>(∃ s,Boxed W (w.heap.size+1) 32 s∧W.ownsRow w.heap.size 43 6 s pre.length (opCs pre)∧True)∧Bel w W)
  (fun _ _ _=>False)
  (OwnFrom.and (Own.from (holdsRow_own w.heap.size (w.heap.size+1) 32 43 6 (fun pre:List Opn=>pre.length) (fun pre=>opCs pre) (fun _ _=>True)) _) (ownFrom_below (qb _) (by omega)))
  (fun _ _ _ _ _ hs _ _=>hs)
  ⟨⟨_,bS,World.ownsRow_nil _ _ _ _,trivial⟩,hB0⟩
  (fun x a' W=>∃ Bx,w.heap.size+1<Bx∧RowIs W Bx 229 6 (opV x)∧a'={ tmps:=#[.agg #[.pointer p0],(pt w.heap.size 0),.slice none 0 0,.pointer (some ⟨w.heap.size+1,0,none⟩),(pt Bx 0),(pt w.heap.size 0),.agg #[.pointer p0],.func (.func 235) #[] #[.pointer (some ⟨w.heap.size+1+1,0,none⟩)],.agg (oC x),undef,undef,undef,undef,undef,undef],defers:=[] })
  (fun x a' _ X Y row hs hg hr=>by obtain ⟨Bx,h1,h2,h3⟩:=hs;exact ⟨Bx,h1,row_own h2 hg (fun r e=>(hr r e).2),h3⟩)
  ?assign ?body ?done ?stop
 case assign=>
  rintro l pre x W K ⟨⟨s,hbx,hrow,-⟩,hB1⟩ hK
  gi_wp2
  exact hK _ _ ((KeepsOthers.alloc _ _).from _) ((qj _ W).alloc hB1.size _) ⟨⟨s,hbx.alloc _,hrow.alloc _,trivial⟩,hB1.alloc hB1.size _⟩ ⟨W.heap.size,hbx.lt,RowIs.last rfl rfl,rfl⟩
 case body=>
  rintro l pre x a' W hl-⟨⟨s,hbx,hrow,-⟩,hB1⟩ ⟨Bx,hBx,hX,rfl⟩ hlt;have hsW:=hB1.size;have cS:=hbx.cell;have fS:=hbx.frozen;have x0:W.cell? (Ad Bx 0)=some (I6 x.kd):=hX.cell (j:=0) (by omega);have x1:W.cell? (Ad Bx 1)=some (U3 x.cl):=hX.cell (j:=1) (by omega);have x2:W.cell? (Ad Bx 2)=some (U3 x.ck):=hX.cell (j:=2) (by omega);have x3:W.cell? (Ad Bx 3)=some (U3 x.st):=hX.cell (j:=3) (by omega);have x4:W.cell? (Ad Bx 4)=some (U6 x.rf):=hX.cell (j:=4) (by omega);have x5:W.cell? (Ad Bx 5)=some (I3 x.ch):=hX.cell (j:=5) (by omega)
  gi_wp2_with (gi_at_builtin;refine wpListIn_append_own _ rfl (.tmp 9) (.tmp 12) 32 rfl w.heap.size 43 io _ 6 40 Tryz.underlying32 oi oz0 oz1 oz2 rfl (by decide) s pre.length (opCs pre) rfl (hrow.alloc _) (Ad W.heap.size 0) 1 1 [I6 x.kd,U3 x.cl,U3 x.ck,U3 x.st,U6 x.rf,I3 x.ch] rfl rfl ?hn (by simp [Value.oneCell']) (by unfold maxLen;omega) (by omega) (by simp;omega) ?_;(case hn=>exact World.news_of_block (heap_alloc_new W _));intro v' w1 hown' hgrow _;obtain ⟨g',cap',rfl⟩:=ownsRow_succ hown';obtain ⟨hv1,hv2,hr2,hk2,hb2⟩:=hbx.appended (by decide) hrow hsW (by omega) hown' hgrow;have hc1:=hv1.cell;have hf1:=hv1.frozen)
  refine ⟨hk2.from _,hb2,⟨_,hv2,?_,trivial⟩,hB1.trans hb2⟩;rw [qe,opCs_app];exact hr2
 case done=>
  rintro D ys W hD rfl ⟨⟨s,hbx,hrow,-⟩,hB1⟩ hK;have cS:=hbx.cell
  gi_wp2
  refine ⟨by simp,.inl ⟨_,_,rfl,run_takeDeferred hK,?_⟩⟩;exact ⟨_,results_tmp rfl _ _ _,⟨s,rfl,ownsRow_putObj hrow _ hK rfl⟩,hB1.trans (belowK_b (w:=w) (qb _) W D _ _ (by omega) hK rfl rfl)⟩
 case stop=>
  rintro D c pre W _ _ h _;exact h.elim
end

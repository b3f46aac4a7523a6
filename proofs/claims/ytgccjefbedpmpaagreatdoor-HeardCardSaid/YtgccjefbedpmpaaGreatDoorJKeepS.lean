import Derived.Test.YtgccjefbedpmpaaGreatDoorJClashS
import Derived.Test.YtgccjefbedpmpaaGreatDoorYAdd4
namespace Go.Proofs.YtgccjefbedpmpaaGreatDoor
open Go.RowKit Go.MuLone
set_option maxRecDepth 100000
set_option maxHeartbeats 8000000
variable {B b : Nat} {cl : Int} {vW : Value} {w' : World} {ws : List Opn}
theorem isTr_gen2 {w w':World} {X:Nat→Prop} (hb:But X w w') (hX:∀ g,X g→∀ f,¬ RowIs w g 318 9 f):∀ {t:Tr} {v:Value},IsTr w v t→IsTr w' v t
 | ⟨none⟩,_,h=>h
 | ⟨some (_,_,_,_)⟩,_,h=>by
  obtain ⟨b,vl,vr,e,hr,hl,hrr⟩:=h;exact ⟨b,vl,vr,e,hr.but hb (fun q=>hX b q _ hr),isTr_gen2 hb hX hl,isTr_gen2 hb hX hrr⟩
theorem Qy {w:World} {e size n g:Nat} {v:Value} {xs:List Value} (h:w.ownsRow B e size v n xs) (he:e≠318) (hg:v.ownBlock=some g):∀ k,¬ RowIs w g 318 9 k:=fun k h2=>by
 rcases h.2 with ⟨q,_⟩|⟨g',cap,cur,q,_,q2,_⟩
 ·rw [q] at hg;cases hg
 ·rw [q] at hg;cases hg;unfold RowIs at h2;rw [q2] at h2;simp only [jx,Obj.cells.injEq] at h2;exact he h2.2.1
def One (w:World) (b:Nat) (cl:Int) (vW:Value) (t:Tr) (ws:List Opn):Prop:=∃ ss top vK,BookIs w b 0 cl ss top vW vK t ws∧BookOk t.list ws∧t.H
theorem One.other {w:World} {b2:Nat} {cl2:Int} {vW2:Value} {t t2:Tr} {ws2:List Opn} (h:One w b cl vW t ws) (h2:One w b2 cl2 vW2 t2 ws2) (hb:But (fun x=>x=b2∨vW2.ownBlock=some x) w w') (hne:b≠b2) (hap:∀ g,vW.ownBlock=some g→vW2.ownBlock≠some g):One w' b cl vW t ws:=by
 obtain ⟨ss,top,vK,B,ok,hH⟩:=h;obtain ⟨ss2,top2,vK2,B2,-,-⟩:=h2;have n1:¬ (b=b2∨vW2.ownBlock=some b):=fun e=>e.elim hne fun e=>xf B2.own B.row (by decide) e rfl;have n2:∀ g,vW.ownBlock=some g→¬ (g=b2∨vW2.ownBlock=some g):=fun g hg e=>e.elim (fun e=>xf B.own B2.row (by decide) hg e) (hap g hg);have n3:∀ g,(g=b2∨vW2.ownBlock=some g)→∀ f,¬ RowIs w g 318 9 f:=fun g e f k=>e.elim (fun e=>absurd (RowIs.type_eq B2.row (e▸k)) (by decide)) (fun e=>Qy B2.own (by decide) e f k);have n4:∀ g,(g=b2∨vW2.ownBlock=some g)→15≤g:=fun g e=>e.elim (fun e=>by rw [e];exact B2.far) (B2.wfar g);exact ⟨ss,top,vK,⟨B.row.but hb n1,isTr_gen2 hb n3 B.tree,kp B.own fun g hg=>hb.block g (qf B.own g hg).2 (n2 g hg),B.typ,B.wtyp,B.wlen,B.size,B.env.but hb n4 (by have:=B.row.lt;have:=B.far;omega),B.far,B.wfar⟩,ok,hH⟩
theorem One.below {w:World} {t:Tr} (h:One w b cl vW t ws) (hb:Bel w w'):One w' b cl vW t ws:=by
 obtain ⟨ss,top,vK,B,ok,hH⟩:=h;exact ⟨ss,top,vK,B.below hb,ok,hH⟩
theorem One.new {w:World} (hx:RowIs w b 118 7 (rep7 0 cl (.pointer none) (.slice none 0 0) 0 (.slice none 0 0))) (hE:Env w) (h2:15≤b):One w b cl (.slice none 0 0) .nil []:=
 ⟨0,.pointer none,.slice none 0 0,⟨hx,rfl,⟨rfl,Or.inl ⟨rfl,rfl⟩⟩,trivial,fun _ h=>(by cases h),by decide,qs _,hE,h2,fun g e=>(by cases e)⟩,BookOk.nil,trivial⟩
theorem below_but {w w1 w2:World} (h:Below B w w1) (hb:But (fun x=>x=b) w1 w2) (hB:B≤b) (hs:B≤w1.heap.size):Below B w w2:=
 ⟨hb.os.trans h.os,hb.tape.trans h.tape,hb.output.trans h.output,qi h.size hb.size,fun k hk=>(hb.block k (by omega) (by omega)).trans (h.block k hk)⟩
theorem One.ops {w:World} {t:Tr} (h:One w b cl vW t ws):Cs 23 #[(pt b 0)] w fun e w'=>(∃ s,e=.returned s∧OwnO w' w.heap.size s t.list)∧Bel w w':=by
 obtain ⟨ss,top,vK,B,ok,hH⟩:=h;refine (rOps_any b cl ss top vW vK t w B.row B.tree (by have:=ok.set.len;omega)).mono ?_;rintro e w' ⟨h1,h2,h3⟩;exact ⟨h1,same_below h3 B.row h2⟩
theorem okW {o:Opn} (h:o.ok=true):OpW o∧(o.kd=1∨o.kd=2):=⟨okOp_w h (ok_rf h),ok_kinds h⟩
theorem One.root {w:World} {t:Tr} (h:One w b cl vW t ws) (lo hi:Int):Cs 27 #[(pt b 0),U6 lo,U6 hi] w fun e w'=>e=.returned (.agg #[U8 (dig (strOfNums (t.rng lo hi).txt) 0),U8 (dig (strOfNums (t.rng lo hi).txt) 1),U8 (dig (strOfNums (t.rng lo hi).txt) 2)])∧Bel w w':=by
 obtain ⟨ss,top,vK,B,ok,hH⟩:=h;exact root_any lo hi b cl ss top vW vK t w B.row B.tree B.typ B.env fun x hx=>okW (ok.set.ok x hx)

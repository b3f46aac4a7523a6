import Derived.Test.YtgccjefbedpmpaaGreatDoorYApp
namespace Go.Proofs.YtgccjefbedpmpaaGreatDoor
open Go.RowKit
set_option maxRecDepth 100000
set_option maxHeartbeats 8000000
structure Fam (w:World) (F:Nat→Prop) (x:Nat) (mk:Int) (V1 V2 V3:Value) (n1 n2 n3:Nat):Prop where
 inF:F x
 row:∃ vb vo vl nb no nl ls,RowIs w x 161 4 (hold4 vb vo vl mk) ∧
  (w.ownsRow 0 5 1 vb nb (signs mk nb)∧(∀ g,vb.ownBlock=some g→F g)∧∀ g,vb.ownBlock=some g→V1.ownBlock=some g→nb≤n1) ∧
  (w.ownsRow 0 43 6 vo no (opms mk no)∧(∀ g,vo.ownBlock=some g→F g)∧∀ g,vo.ownBlock=some g→V2.ownBlock=some g→no≤n2) ∧
  (w.ownsRow 0 59 1 vl nl ls∧(∀ g,vl.ownBlock=some g→F g)∧∀ g,vl.ownBlock=some g→V3.ownBlock=some g→nl≤n3) ∧
  ∀ v∈ls,ListOk w (fun b=>F b∧¬ ownX V1 V2 V3 b) mk v
theorem ListOk.mono {w:World} {F F':Nat→Prop} {mk:Int} {v:Value} (h:ListOk w F mk v) (hF:∀ b,F b→F' b):ListOk w F' mk v:=h.frame hF fun _ _=>rfl
theorem Fam.ok {w:World} {F:Nat→Prop} {x:Nat} {mk:Int} {V1 V2 V3:Value} {n1 n2 n3:Nat} (h:Fam w F x mk V1 V2 V3 n1 n2 n3) (hp:0≤mk∧mk≤9223372036854775807):∃ nb no nl,HoldOk w F x mk nb no nl:=by
 obtain ⟨vb,vo,vl,nb,no,nl,ls,h1,h2,h3,h4,h5⟩:=h.row
 exact ⟨nb,no,nl,h.inF,hp,vb,vo,vl,ls,h1,⟨h2.1,h2.2.1⟩,⟨h3.1,h3.2.1⟩,⟨h4.1,h4.2.1⟩,fun v hv=>(h5 v hv).mono fun _ e=>e.1⟩
theorem Fam.frame {w w':World} {F F':Nat→Prop} {x:Nat} {mk:Int} {V1 V2 V3:Value} {n1 n2 n3:Nat} (h:Fam w F x mk V1 V2 V3 n1 n2 n3) (hF:∀ b,F b→F' b) (hf:∀ b,F b→w'.heap[b]?=w.heap[b]?):Fam w' F' x mk V1 V2 V3 n1 n2 n3:=by
 obtain ⟨vb,vo,vl,nb,no,nl,ls,h1,h2,h3,h4,h5⟩:=h.row
 exact ⟨hF _ h.inF,vb,vo,vl,nb,no,nl,ls,(hf _ h.inF).trans h1,⟨own_frame h2.1 fun g hg=>hf g (h2.2.1 g hg),fun g hg=>hF g (h2.2.1 g hg),h2.2.2⟩,
  ⟨own_frame h3.1 fun g hg=>hf g (h3.2.1 g hg),fun g hg=>hF g (h3.2.1 g hg),h3.2.2⟩,⟨own_frame h4.1 fun g hg=>hf g (h4.2.1 g hg),fun g hg=>hF g (h4.2.1 g hg),h4.2.2⟩,
  fun v hv=>(h5 v hv).frame (fun b e=>⟨hF b e.1,e.2⟩) fun b e=>hf b e.1⟩
theorem Fam.of_raw {w:World} {F:Nat→Prop} {x:Nat} {mk:Int} {V1 V2 V3:Value} {n1 n2 n3:Nat} {ls:List Value} (h:HoldRaw w x mk V1 V2 V3 n1 n2 n3 (signs mk n1) (opms mk n2) ls) (hx:F x) (hV:∀ b,ownX V1 V2 V3 b→F b) (hl:∀ v∈ls,ListOk w (fun b=>F b∧¬ ownX V1 V2 V3 b) mk v) :
  Fam w F x mk V1 V2 V3 n1 n2 n3:=
 ⟨hx,V1,V2,V3,n1,n2,n3,ls,h.row,⟨h.ob,fun g hg=>hV g (Or.inl hg),fun _ _ _=>Nat.le_refl _⟩,⟨h.oo,fun g hg=>hV g (Or.inr (Or.inl hg)),fun _ _ _=>Nat.le_refl _⟩,⟨h.ol,fun g hg=>hV g (Or.inr (Or.inr hg)),fun _ _ _=>Nat.le_refl _⟩,hl⟩
theorem row_notX {w:World} {g:Nat} {mk:Int} {V1 V2 V3:Value} {n1 n2 n3:Nat} {xb xo xl:List Value} (hr:HoldRaw w g mk V1 V2 V3 n1 n2 n3 xb xo xl) {x t k:Nat} {f:Nat→Value} (h:RowIs w x t k f) (h1:5≠t) (h2:43≠t) (h3:59≠t):¬ ownX V1 V2 V3 x:=fun e=>by
 rcases e with e|e|e
 ·exact row_apart hr.ob h h1 e rfl
 ·exact row_apart hr.oo h h2 e rfl
 ·exact row_apart hr.ol h h3 e rfl
theorem Mid.notX {w w':World} {mk:Int} {vb vo vl:Value} {nb no nl:Nat} {V1 V2 V3:Value} (m:Mid w w' mk vb vo vl nb no nl V1 V2 V3) {b:Nat} (hb:b≤w.heap.size+1) (h:¬ ownX vb vo vl b):¬ ownX V1 V2 V3 b:=fun e=>by
 rcases e with e|e|e
 ·rcases m.lie1 b e with e|e
  ·exact h (Or.inl e)
  ·omega
 ·rcases m.lie2 b e with e|e
  ·exact h (Or.inr (Or.inl e))
  ·omega
 ·rcases m.lie3 b e with e|e
  ·exact h (Or.inr (Or.inr e))
  ·omega
theorem Mid.lists {w w':World} {F F':Nat→Prop} {mk:Int} {V1 V2 V3 U1 U2 U3:Value} {n1 n2 n3:Nat} (m:Mid w w' mk V1 V2 V3 n1 n2 n3 U1 U2 U3) (hF:∀ b,F b→F' b) (hFw:∀ b,F b→b<w.heap.size) {v:Value} (h:ListOk w (fun b=>F b∧¬ ownX V1 V2 V3 b) mk v) :
  ListOk w' (fun b=>F' b∧¬ ownX U1 U2 U3 b) mk v:=
 h.frame (fun b e=>⟨hF b e.1,m.notX (by have:=hFw b e.1;omega) e.2⟩) fun b e=>m.kept.but.block b (hFw b e.1) e.2
theorem Fam.step {w w':World} {F F':Nat→Prop} {x g:Nat} {mk:Int} {V1 V2 V3 U1 U2 U3:Value} {n1 n2 n3:Nat} {xb xo xl:List Value} (h:Fam w F x mk V1 V2 V3 n1 n2 n3) (hr:HoldRaw w g mk V1 V2 V3 n1 n2 n3 xb xo xl) (m:Mid w w' mk V1 V2 V3 n1 n2 n3 U1 U2 U3)
  (hF:∀ b,F b→F' b) (hFw:∀ b,F b→b<w.heap.size):Fam w' F' x mk U1 U2 U3 (n1+1) (n2+1) (n3+1):=by
 obtain ⟨vb,vo,vl,nb,no,nl,ls,h1,h2,h3,h4,h5⟩:=h.row
 have key:∀ {u v:Value} {n e' s' n':Nat} {e s:Nat} {ys zs:List Value} {A:Prop},w.ownsRow 0 e s u n ys→w.ownsRow 0 e' s' v n' zs→e≠e'→u.ownBlock≠none→u.ownBlock=v.ownBlock→A:=fun {u} _ _ _ _ _ _ _ _ _ _ a b c d f=>by
  cases hg:u.ownBlock with
  | none=>exact absurd hg d
  | some y=>exact absurd (f.symm.trans hg) (own_apart a b c hg)
 refine ⟨hF _ h.inF,vb,vo,vl,nb,no,nl,ls,h1.but m.kept.but (row_notX hr h1 (by decide) (by decide) (by decide)),⟨m.kept.own _ _ _ _ _ h2.1 ?_ (key h2.1 hr.oo (by decide)) (key h2.1 hr.ol (by decide)),fun y hy=>hF y (h2.2.1 y hy),?_⟩,
  ⟨m.kept.own _ _ _ _ _ h3.1 (key h3.1 hr.ob (by decide)) ?_ (key h3.1 hr.ol (by decide)),fun y hy=>hF y (h3.2.1 y hy),?_⟩,⟨m.kept.own _ _ _ _ _ h4.1 (key h4.1 hr.ob (by decide)) (key h4.1 hr.oo (by decide)) ?_,fun y hy=>hF y (h4.2.1 y hy),?_⟩,fun v hv=>m.lists hF hFw (h5 v hv)⟩
 ·intro a b
  cases hg:vb.ownBlock with
  | none=>exact absurd hg a
  | some y=>exact ⟨rfl,rfl,h2.2.2 y hg (b.symm.trans hg)⟩
 ·intro y hy hU
  rcases m.lie1 y hU with e|e
  ·have:=h2.2.2 y hy e;omega
  ·have:=(h2.1.lt y hy).2;omega
 ·intro a b
  cases hg:vo.ownBlock with
  | none=>exact absurd hg a
  | some y=>exact ⟨rfl,rfl,h3.2.2 y hg (b.symm.trans hg)⟩
 ·intro y hy hU
  rcases m.lie2 y hU with e|e
  ·have:=h3.2.2 y hy e;omega
  ·have:=(h3.1.lt y hy).2;omega
 ·intro a b
  cases hg:vl.ownBlock with
  | none=>exact absurd hg a
  | some y=>exact ⟨rfl,rfl,h4.2.2 y hg (b.symm.trans hg)⟩
 ·intro y hy hU
  rcases m.lie3 y hU with e|e
  ·have:=h4.2.2 y hy e;omega
  ·have:=(h4.1.lt y hy).2;omega
def Gof (w wr:World) (hb:Nat) (vb vo vl vH:Value) (b:Nat):Prop:=b=hb∨ownX vb vo vl b∨(w.heap.size≤b∧b<wr.heap.size∧vH.ownBlock≠some b)
def Xof (wd hb:Nat) (vb vo vl vH:Value) (b:Nat):Prop:=b=wd∨b=hb∨ownX vb vo vl b∨vH.ownBlock=some b
structure Pre (w:World) (wd:Nat) (R:Nat→Int) (vP vH:Value) (F:Nat→Prop) (hs:List Nat) (hb:Nat) (vb vo vl:Value):Prop where
 ok:WOk w wd R vP vH F hs
 far:∀ b,(b=hb∨ownX vb vo vl b)→b<w.heap.size∧¬ F b∧b≠wd∧vH.ownBlock≠some b
structure Kst (w wr:World) (wd:Nat) (R:Nat→Int) (vP vH:Value) (F:Nat→Prop) (hs:List Nat) (hb:Nat) (vb vo vl:Value) (mk:Int) (j n1 n2 n3:Nat) (vH':Value) (hs':List Nat) (g:Nat) (V1 V2 V3:Value) (ls:List Value):Prop where
 row:RowIs wr wd 90 74 (wcell R vP vH')
 own:wr.ownsRow 0 159 1 vH' (hs.length+j) (ptrs hs')
 len:hs'.length=hs.length+j
 lieH:∀ b,vH'.ownBlock=some b→vH.ownBlock=some b∨w.heap.size≤b
 old:∀ x∈hs',(∃ mk nb no nl,HoldOk wr F x mk nb no nl)∨Fam wr (Gof w wr hb vb vo vl vH') x mk V1 V2 V3 n1 n2 n3
 raw:HoldRaw wr g mk V1 V2 V3 n1 n2 n3 (signs mk n1) (opms mk n2) ls
 lists:∀ v∈ls,ListOk wr (fun b=>Gof w wr hb vb vo vl vH' b∧¬ ownX V1 V2 V3 b) mk v
 inG:Gof w wr hb vb vo vl vH' g
 ownG:∀ b,ownX V1 V2 V3 b→Gof w wr hb vb vo vl vH' b
 but:But (Xof wd hb vb vo vl vH) w wr
section
variable {w wr : World} {wd : Nat} {R : Nat → Int} {vP vH : Value} {F : Nat → Prop} {hs : List Nat} {hb : Nat} {vb vo vl : Value} {mk : Int} {j n1 n2 n3 : Nat} {vH' : Value} {hs' : List Nat} {g : Nat} {V1 V2 V3 : Value} {ls : List Value}
theorem Gof.lt (p:Pre w wd R vP vH F hs hb vb vo vl) (hs:w.heap.size≤wr.heap.size) {b:Nat} (h:Gof w wr hb vb vo vl vH' b):b<wr.heap.size:=by
 rcases h with h|h|h
 ·have:=(p.far b (Or.inl h)).1;omega
 ·have:=(p.far b (Or.inr h)).1;omega
 ·exact h.2.1
theorem Gof.notF (p:Pre w wd R vP vH F hs hb vb vo vl) {b:Nat} (h:Gof w wr hb vb vo vl vH' b):¬ F b:=by
 rcases h with h|h|h
 ·exact (p.far b (Or.inl h)).2.1
 ·exact (p.far b (Or.inr h)).2.1
 ·exact fun e=>by have:=p.ok.below b e;omega
theorem Gof.notWd (p:Pre w wd R vP vH F hs hb vb vo vl) {b:Nat} (h:Gof w wr hb vb vo vl vH' b):b≠wd:=by
 rcases h with h|h|h
 ·exact (p.far b (Or.inl h)).2.2.1
 ·exact (p.far b (Or.inr h)).2.2.1
 ·exact fun e=>by have:=p.ok.row.lt;omega
theorem Kst.F_notH (k:Kst w wr wd R vP vH F hs hb vb vo vl mk j n1 n2 n3 vH' hs' g V1 V2 V3 ls) (p:Pre w wd R vP vH F hs hb vb vo vl) {b:Nat} (h:F b):vH'.ownBlock≠some b:=fun e=>by
 rcases k.lieH b e with e1|e1
 ·exact (p.ok.apart.2 b e1).1 h
 ·have:=p.ok.below b h;omega
theorem Kst.G_notH (k:Kst w wr wd R vP vH F hs hb vb vo vl mk j n1 n2 n3 vH' hs' g V1 V2 V3 ls) (p:Pre w wd R vP vH F hs hb vb vo vl) {b:Nat} (h:Gof w wr hb vb vo vl vH' b):vH'.ownBlock≠some b:=fun e=>by
 rcases h with h|h|h
 ·rcases k.lieH b e with e1|e1
  ·exact (p.far b (Or.inl h)).2.2.2 e1
  ·have:=(p.far b (Or.inl h)).1;omega
 ·rcases k.lieH b e with e1|e1
  ·exact (p.far b (Or.inr h)).2.2.2 e1
  ·have:=(p.far b (Or.inr h)).1;omega
 ·exact h.2.2 e
theorem Kst.ok (k:Kst w wr wd R vP vH F hs hb vb vo vl mk j n1 n2 n3 vH' hs' g V1 V2 V3 ls) (p:Pre w wd R vP vH F hs hb vb vo vl) (hp:0≤mk∧mk≤9223372036854775807) :
  WOk wr wd R vP vH' (fun b=>F b∨Gof w wr hb vb vo vl vH' b) hs':=
 ⟨k.row,by rw [k.len];exact k.own,fun x hx=>by
   rcases k.old x hx with ⟨m,a,b,c,h⟩|h
   ·exact ⟨m,a,b,c,h.mono fun _ e=>Or.inl e⟩
   ·obtain ⟨a,b,c,h⟩:=h.ok hp
    exact ⟨mk,a,b,c,h.mono fun _ e=>Or.inr e⟩,
  ⟨fun e=>e.elim p.ok.apart.1 fun e=>Gof.notWd p e rfl,fun y hy=>⟨fun e=>e.elim (fun e=>k.F_notH p e hy) fun e=>k.G_notH p e hy,row_apart k.own k.row (by decide) hy⟩⟩,
  fun b e=>e.elim (fun e=>Nat.lt_of_lt_of_le (p.ok.below b e) k.but.size) fun e=>Gof.lt p k.but.size e⟩
theorem Kst.longer (k:Kst w wr wd R vP vH F hs hb vb vo vl mk j n1 n2 n3 vH' hs' g V1 V2 V3 ls) (p:Pre w wd R vP vH F hs hb vb vo vl) {w1:World} {U1 U2 U3:Value}
  (hr:HoldRaw w1 wr.heap.size mk U1 U2 U3 (n1+1) (n2+1) (n3+1) (signs mk (n1+1)) (opms mk (n2+1)) (ls++[.slice (some ⟨wr.heap.size+1,0,none⟩) 3 3])) (m:Mid wr w1 mk V1 V2 V3 n1 n2 n3 U1 U2 U3) :
  Kst w w1 wd R vP vH F hs hb vb vo vl mk j (n1+1) (n2+1) (n3+1) vH' hs' wr.heap.size U1 U2 U3 (ls++[.slice (some ⟨wr.heap.size+1,0,none⟩) 3 3]):=by
 have hsz:=m.lt
 have hws:=k.but.size
 have hHlt:∀ b,vH'.ownBlock=some b→b<wr.heap.size:=fun b e=>(k.own.lt b e).2
 have hG:∀ b,Gof w wr hb vb vo vl vH' b→Gof w w1 hb vb vo vl vH' b:=fun b e=>by
  rcases e with e|e|e
  ·exact Or.inl e
  ·exact Or.inr (Or.inl e)
  ·exact Or.inr (Or.inr ⟨e.1,by omega,e.2.2⟩)
 have hnew:∀ b,wr.heap.size≤b→b<w1.heap.size→Gof w w1 hb vb vo vl vH' b:=fun b h1 h2=>Or.inr (Or.inr ⟨by omega,h2,fun e=>by have:=hHlt b e;omega⟩)
 have hXF:∀ b,F b→¬ ownX V1 V2 V3 b:=fun b e e1=>Gof.notF p (k.ownG b e1) e
 refine ⟨k.row.but m.kept.but fun e=>Gof.notWd p (k.ownG _ e) rfl,own_frame k.own fun y hy=>m.kept.but.block y (hHlt y hy) fun e=>k.G_notH p (k.ownG _ e) hy,k.len,k.lieH,fun x hx=>?_,hr,fun v hv=>?_,hnew _ (Nat.le_refl _) (by omega),fun b e=>?_,?_⟩
 ·rcases k.old x hx with ⟨a,b,c,d,h⟩|h
  ·exact Or.inl ⟨a,b,c,d,h.frame fun y hy=>m.kept.but.block y (Nat.lt_of_lt_of_le (p.ok.below y hy) hws) (hXF y hy)⟩
  ·exact Or.inr (h.step k.raw m hG fun b e=>Gof.lt p hws e)
 ·rcases List.mem_append.1 hv with hv|hv
  ·exact m.lists hG (fun b e=>Gof.lt p hws e) (k.lists v hv)
  ·rw [List.mem_singleton] at hv
   subst hv
   exact ⟨_,rfl,⟨hnew _ (by omega) hsz,m.notX (Nat.le_refl _) fun e=>by have:=Gof.lt p hws (k.ownG _ e);omega⟩,m.lstB⟩
 ·have hlt:b<w1.heap.size:=by
   rcases e with e|e|e
   ·exact (hr.ob.lt b e).2
   ·exact (hr.oo.lt b e).2
   ·exact (hr.ol.lt b e).2
  rcases Nat.lt_or_ge b wr.heap.size with hb|hb
  ·refine hG b (k.ownG b ?_)
   rcases e with e|e|e
   ·exact Or.inl ((m.lie1 b e).resolve_right (by omega))
   ·exact Or.inr (Or.inl ((m.lie2 b e).resolve_right (by omega)))
   ·exact Or.inr (Or.inr ((m.lie3 b e).resolve_right (by omega)))
  ·exact hnew b hb hlt
 ·refine ⟨by omega,m.kept.but.os.trans k.but.os,m.kept.but.tape.trans k.but.tape,m.kept.but.output.trans k.but.output,fun b hb hx=>(m.kept.but.block b (by omega) fun e=>?_).trans (k.but.block b hb hx)⟩
  rcases k.ownG b e with e|e|e
  ·exact hx (Or.inr (Or.inl e))
  ·exact hx (Or.inr (Or.inr (Or.inl e)))
  ·omega
theorem Kst.push (k:Kst w wr wd R vP vH F hs hb vb vo vl mk j n1 n2 n3 vH' hs' g V1 V2 V3 ls) (p:Pre w wd R vP vH F hs hb vb vo vl) {wa w2:World} {U:Value} (ha:Below wr.heap.size wr wa)
  (hg:Grew 159 1 (hs.length+j) vH' U wa w2) (ho:w2.ownsRow 0 159 1 U (hs.length+j+1) (ptrs hs'++[.pointer (some ⟨g,0,none⟩)])) :
  Kst w (w2.setCell ⟨wd,73,none⟩ U) wd R vP vH F hs hb vb vo vl mk (j+1) n1 n2 n3 U (hs'++[g]) g V1 V2 V3 ls:=by
 have hws:=k.but.size
 have has:=ha.size
 have h2s:=hg.but.size
 have hwd:=k.row.lt
 have hss:(w2.setCell ⟨wd,73,none⟩ U).heap.size=w2.heap.size:=by simp [World.setCell]
 have rw2:RowIs w2 wd 90 74 (wcell R vP vH'):=hg.row (own_below k.own ha) (k.row.below ha hwd) (by decide)
 have hU:∀ b,U.ownBlock=some b→vH'.ownBlock=some b∨wr.heap.size≤b:=fun b e=>by
  rcases hg.lies with e1|⟨y,e1,e2⟩
  ·exact Or.inl (e1▸e)
  ·rw [e1] at e;cases e;exact Or.inr (by omega)
 have hG:∀ b,Gof w wr hb vb vo vl vH' b→Gof w (w2.setCell ⟨wd,73,none⟩ U) hb vb vo vl U b:=fun b e=>by
  rcases e with e|e|e
  ·exact Or.inl e
  ·exact Or.inr (Or.inl e)
  ·refine Or.inr (Or.inr ⟨e.1,by omega,fun e1=>?_⟩)
   rcases hU b e1 with e2|e2
   ·exact e.2.2 e2
   ·omega
 have hf:∀ b,b<wr.heap.size→vH'.ownBlock≠some b→b≠wd→(w2.setCell ⟨wd,73,none⟩ U).heap[b]?=wr.heap[b]?:=fun b h1 h2 h3=>
  (heap_setCell_other _ _ _ _ h3).trans ((hg.but.block b (by omega) h2).trans (ha.block b h1))
 have hfG:∀ b,Gof w wr hb vb vo vl vH' b→(w2.setCell ⟨wd,73,none⟩ U).heap[b]?=wr.heap[b]?:=fun b e=>hf b (Gof.lt p hws e) (k.G_notH p e) (Gof.notWd p e)
 have hfF:∀ b,F b→(w2.setCell ⟨wd,73,none⟩ U).heap[b]?=wr.heap[b]?:=fun b e=>hf b (Nat.lt_of_lt_of_le (p.ok.below b e) hws) (k.F_notH p e) fun e1=>p.ok.apart.1 (e1▸e)
 have hraw:HoldRaw (w2.setCell ⟨wd,73,none⟩ U) g mk V1 V2 V3 n1 n2 n3 (signs mk n1) (opms mk n2) ls:=⟨(hfG g k.inG).trans k.raw.row,own_frame k.raw.ob fun y hy=>hfG y (k.ownG y (Or.inl hy)),own_frame k.raw.oo fun y hy=>hfG y (k.ownG y (Or.inr (Or.inl hy))),own_frame k.raw.ol fun y hy=>hfG y (k.ownG y (Or.inr (Or.inr hy)))⟩
 have hlist:∀ v∈ls,ListOk (w2.setCell ⟨wd,73,none⟩ U) (fun b=>Gof w (w2.setCell ⟨wd,73,none⟩ U) hb vb vo vl U b∧¬ ownX V1 V2 V3 b) mk v:=fun v hv=>(k.lists v hv).frame (fun b e=>⟨hG b e.1,e.2⟩) fun b e=>hfG b e.1
 refine ⟨(rw2.set 73 U).congr fun i hi=>?_,own_set (by rw [← Nat.add_assoc];simpa [ptrs] using ho) rw2 (by decide) 73 U,by rw [List.length_append,k.len];rfl,fun b e=>?_,fun x hx=>?_,hraw,hlist,hG _ k.inG,fun b e=>hG b (k.ownG b e),?_⟩
 ·by_cases e:i=73
  ·subst e;rfl
  ·simp only [wcell,if_neg e]
   split
   ·rfl
   ·split
    ·rfl
    ·omega
 ·rcases hU b e with e1|e1
  ·exact k.lieH b e1
  ·exact Or.inr (by omega)
 ·rcases List.mem_append.1 hx with hx|hx
  ·rcases k.old x hx with ⟨a,b,c,d,h⟩|h
   ·exact Or.inl ⟨a,b,c,d,h.frame hfF⟩
   ·exact Or.inr (h.frame hG hfG)
  ·rw [List.mem_singleton] at hx
   subst hx
   exact Or.inr (Fam.of_raw hraw (hG _ k.inG) (fun b e=>hG b (k.ownG b e)) hlist)
 ·refine But.setCell ⟨by omega,(hg.but.os.trans ha.os).trans k.but.os,(hg.but.tape.trans ha.tape).trans k.but.tape,(hg.but.output.trans ha.output).trans k.but.output,fun b hb hx=>((hg.but.block b (by omega) fun e=>?_).trans (ha.block b (by omega))).trans (k.but.block b hb hx)⟩ (Or.inl (Or.inl rfl)) U
  rcases k.lieH b e with e1|e1
  ·exact hx (Or.inr (Or.inr (Or.inr e1)))
  ·omega
end
section
variable {w : World} {wd : Nat} {R : Nat → Int} {vP vH : Value} {F : Nat → Prop} {hs : List Nat} {hb : Nat} {m0 mk : Int} {vb vo vl : Value} {nb no nl : Nat} {xb xo xl : List Value}
theorem HoldRaw.mark (hr:HoldRaw w hb m0 vb vo vl nb no nl xb xo xl) (mk:Int):HoldRaw (w.setCell ⟨hb,3,none⟩ (.int .i64 mk)) hb mk vb vo vl nb no nl xb xo xl:=
 ⟨(hr.row.set 3 _).congr (fun j hj=>by match j with|0=>rfl|1=>rfl|2=>rfl|3=>rfl),own_set hr.ob hr.row (by decide) _ _,own_set hr.oo hr.row (by decide) _ _,own_set hr.ol hr.row (by decide) _ _⟩
theorem Kst.first (p:Pre w wd R vP vH F hs hb vb vo vl) {w1:World} {ls:List Value} (hraw:HoldRaw w1 hb mk vb vo vl nb no nl (signs mk nb) (opms mk no) ls)
  (hls:∀ v∈ls,ListOk w1 (fun b=>(w.setCell ⟨hb,3,none⟩ (.int .i64 mk)).heap.size≤b∧b<w1.heap.size) mk v) (hbut:But (ownX vb vo vl) (w.setCell ⟨hb,3,none⟩ (.int .i64 mk)) w1) :
  Kst w w1 wd R vP vH F hs hb vb vo vl mk 0 nb no nl vH hs hb vb vo vl ls:=by
 have hss:(w.setCell ⟨hb,3,none⟩ (.int .i64 mk)).heap.size=w.heap.size:=by simp [World.setCell]
 have h1s:=hbut.size
 rw [hss] at h1s
 have hf:∀ b,b<w.heap.size→¬ (b=hb∨ownX vb vo vl b)→w1.heap[b]?=w.heap[b]?:=fun b h1 h2=>(hbut.block b (by omega) fun e=>h2 (Or.inr e)).trans (heap_setCell_other _ _ _ _ fun e=>h2 (Or.inl e))
 have hHlt:∀ b,vH.ownBlock=some b→b<w.heap.size:=fun b e=>(p.ok.own.lt b e).2
 refine ⟨(hf wd p.ok.row.lt fun e=>(p.far wd e).2.2.1 rfl).trans p.ok.row,own_frame p.ok.own fun y hy=>hf y (hHlt y hy) fun e=>(p.far y e).2.2.2 hy,rfl,fun _ e=>Or.inl e,fun x hx=>?_,hraw,fun v hv=>?_,Or.inl rfl,fun _ e=>Or.inr (Or.inl e),?_⟩
 ·obtain ⟨a,b,c,d,h⟩:=p.ok.holds x hx
  exact Or.inl ⟨a,b,c,d,h.frame fun y hy=>hf y (p.ok.below y hy) fun e=>(p.far y e).2.1 hy⟩
 ·exact (hls v hv).mono fun b e=>⟨Or.inr (Or.inr ⟨by omega,e.2,fun e1=>by have:=hHlt b e1;omega⟩),fun e1=>by have:=(p.far b (Or.inr e1)).1;omega⟩
 ·exact ⟨h1s,hbut.os.trans (by simp [World.setCell]),hbut.tape.trans rfl,hbut.output.trans (by simp [World.setCell]),fun b hb hx=>hf b hb fun e=>hx (Or.inr (e.elim Or.inl fun e=>Or.inr (Or.inl e)))⟩
end
theorem szA {n k b c:Nat} (h:(n+3)*b≤c) (hk:k<3):(n+k+1)*b≤c:=Nat.le_trans (Nat.mul_le_mul_right b (by omega)) h
theorem szB {n k b c:Nat} (h:(n+4)*b≤c) (hk:k<3):(n+(k+1)+1)*b≤c:=Nat.le_trans (Nat.mul_le_mul_right b (by omega)) h
theorem szC {n:Nat} (h:(n+1)*8≤140737488355328):n+1≤maxLen:=by unfold maxLen;omega
theorem szD {n:Nat} (h:(n+4)*8≤140737488355328):(n:Int)+1≤9223372036854775807:=by omega
theorem szE {n k c:Nat} (h:n+3≤c) (hk:k<3):n+k+1≤c:=by omega
theorem infoH:(Tryz.prog.info? 159).map (fun i=>(i.zero,i.size,i.bytes))=some (some (.pointer none),1,8):=by kernel_rfl
theorem keep_any {w:World} {wd:Nat} {R:Nat→Int} {vP vH:Value} {F:Nat→Prop} {hs:List Nat} {hb:Nat} {m0:Int} {vb vo vl:Value} {nb no nl:Nat} {xb xo xl:List Value} (p:Pre w wd R vP vH F hs hb vb vo vl) (hr:HoldRaw w hb m0 vb vo vl nb no nl xb xo xl)
  (s0:(hs.length+4)*8≤140737488355328) (s1:nb+3≤140737488355328) (s2:(no+3)*40≤140737488355328) (s3:(nl+3)*24≤140737488355328) :
  Calls Tryz.prog 83 #[.pointer (some ⟨wd,0,none⟩),.pointer (some ⟨hb,0,none⟩)] w fun e w'=>e=.returned (.tuple #[])∧∃ n1 n2 n3 vH' hs' g V1 V2 V3 ls,Kst w w' wd R vP vH F hs hb vb vo vl (hs.length+1) 4 n1 n2 n3 vH' hs' g V1 V2 V3 ls:=by
 obtain ⟨ip,pi,pz0,pz1,pz2⟩:=info_parts infoH
 obtain ⟨aH,cH,rfl,-⟩:=own_viewN p.ok.own
 have c73:w.cell? ⟨wd,73,none⟩=some (.slice aH hs.length cH):=p.ok.row.cell (by omega)
 have h3:w.cell? ⟨hb,3,none⟩=some (.int .i64 m0):=hr.row.cell (by omega)
 have f3:=hr.row.free 3
 go_enter Tryz.func83,Tryz.ntmps83
 go_wp2_with (first
  | (go_at_call 141;refine (marks_any (hr.mark ((hs.length:Int)+1)) (by omega) (by omega)).mono ?_;rintro e w1 ⟨rfl,⟨ls,hraw,hls⟩,hbut⟩;have k0:=Kst.first p hraw hls hbut;have k73:w1.cell? ⟨wd,73,none⟩=some (.slice aH hs.length cH):=k0.row.cell (by omega);have hA:Below w1.heap.size w1 (w1.alloc (.cells #[.pointer (some ⟨hb,0,none⟩)] 159)):=(Below.refl _ _).alloc (Nat.le_refl _) _;clear hraw hls hbut)
  | (at_builtin;refine wpList_append_keep _ rfl (.tmp 21) (.tmp 23) 88 rfl 159 ip (.pointer none) 1 8 Tryz.underlying88 pi pz0 pz1 pz2 rfl (by decide) (.slice aH hs.length cH) hs.length (ptrs hs) rfl (own_below k0.own hA) ⟨w1.heap.size,0,none⟩ 1 1 [.pointer (some ⟨hb,0,none⟩)] rfl rfl ?hn (by simp [Value.oneCell']) (by omega) (by unfold maxLen;omega) (by omega) ?_;(case hn=>exact World.news_of_block (heap_alloc_new w1 _));intro v2 w2 ho2 hg2;obtain ⟨a2,c2,rfl,-⟩:=own_viewN ho2;have k1:=k0.push p hA hg2 ho2;have rW:=hg2.row (own_below k0.own hA) (k0.row.below hA k0.row.lt) (by decide);have b73:=rW.cell (show 73<74 by omega);have fb73:=rW.free 73))
 clear b73 fb73 rW hg2 ho2 k73 hA c73 h3 f3 k0
 go_loopw [4,5] (fun gv i wr=>∃ k:Nat,k≤3∧i=.int .i64 k∧∃ vH' hs' g V1 V2 V3 ls,gv=.pointer (some ⟨g,0,none⟩)∧Kst w wr wd R vP (.slice aH hs.length cH) F hs hb vb vo vl (hs.length+1) (k+1) (nb+k) (no+k) (nl+k) vH' hs' g V1 V2 V3 ls) (fun _ i _=>3-(intOf i).toNat)
 case atStart=>exact ⟨0,by omega,rfl,_,_,_,_,_,_,_,rfl,k1⟩
 case round=>
  obtain ⟨k,hk,rfl,vH',hs',g,V1,V2,V3,lq,rfl,K⟩:=hrel
  clear k1
  by_cases hlt:k<3
  ·have lk:(k:Int)<3:=by omega
   have t1:=szE s1 hlt
   have t2:=szA s2 hlt
   have t3:=szA s3 hlt
   have t4:(0:Int)≤(hs.length:Int)+1:=Int.le_add_one (Int.natCast_nonneg _)
   have t5:=szD s0
   have t8:=szB s0 hlt
   obtain ⟨N,hN⟩:∃ N,hs.length+(k+1)=N:=⟨_,rfl⟩
   have KO:=K.own
   rw [hN] at KO
   obtain ⟨aN,cN,rfl,-⟩:=own_viewN KO
   clear KO
   rw [hN] at t8
   have t7:=szC t8
   go_wp2_with (first
    | (go_at_call 142;refine (longer_any K.raw t4 t5 t1 t2 t3).mono ?_;rintro e w3 ⟨rfl,U1,U2,U3,hr3,m3⟩;have K3:=K.longer p hr3 m3;have k73:w3.cell? ⟨wd,73,none⟩=some (.slice aN N cN):=K3.row.cell (by omega);have hA:Below w3.heap.size w3 (w3.alloc (.cells #[.pointer (some ⟨wr.heap.size,0,none⟩)] 159)):=(Below.refl _ _).alloc (Nat.le_refl _) _;have O3:=own_below K3.own hA;rw [hN] at O3;have RW3:=K3.row.below hA K3.row.lt;clear hr3 m3)
    | (at_builtin;refine wpList_append_keep _ rfl (.tmp 38) (.tmp 40) 88 rfl 159 ip (.pointer none) 1 8 Tryz.underlying88 pi pz0 pz1 pz2 rfl (by decide) (.slice aN N cN) N (ptrs hs') rfl O3 ⟨w3.heap.size,0,none⟩ 1 1 [.pointer (some ⟨wr.heap.size,0,none⟩)] rfl rfl ?hn (by simp [Value.oneCell']) (by decide) t7 t8 ?_;(case hn=>exact World.news_of_block (heap_alloc_new w3 _));intro v2 w4 ho2 hg2;obtain ⟨a2,c2,rfl,-⟩:=own_viewN ho2;have K4:=K3.push p hA (by rw [hN];exact hg2) (by rw [hN];exact ho2);have rW:=hg2.row O3 RW3 (by decide);have b73:=rW.cell (show 73<74 by omega);have fb73:=rW.free 73))
   go_roundw
   case rel=>exact ⟨k+1,hlt,by go_num,_,_,_,_,_,_,_,rfl,K4⟩
   case measure=>simp [intOf];omega
  ·obtain rfl:k=3:=by omega
   go_wp2
   go_end0
   exact ⟨rfl,_,_,_,_,_,_,_,_,_,_,K⟩
end Go.Proofs.YtgccjefbedpmpaaGreatDoor

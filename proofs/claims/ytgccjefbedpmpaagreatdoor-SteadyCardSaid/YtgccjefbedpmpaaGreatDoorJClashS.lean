import Derived.Test.YtgccjefbedpmpaaGreatDoorJRoot
namespace Go.Proofs.YtgccjefbedpmpaaGreatDoor
open Go.RowKit
set_option maxRecDepth 100000
set_option maxHeartbeats 8000000
structure RwS (w W:World) (g:Nat) (p:Option Addr) (x:Tr):Prop where
 below:Below w.heap.size w W
 r1:∃ f,RowIs W w.heap.size 103 1 f
 r2:∃ f,RowIs W (w.heap.size+1) 103 1 f
 c1:RowIs W g 103 1 fun _=>.pointer p
 tx:IsTr W (.pointer p) x
theorem RwS.kept {w W W2:World} {g:Nat} {p:Option Addr} {x:Tr} (h:RwS w W g p x) (hb:Below W.heap.size W W2):RwS w W2 g p x:=⟨h.below.trans (hb.mono h.below.size),h.r1.elim fun f r=>⟨f,r.below hb r.lt⟩,h.r2.elim fun f r=>⟨f,r.below hb r.lt⟩,h.c1.below hb h.c1.lt,h.tx.below hb⟩
theorem RwS.cell {w W:World} {g:Nat} {p:Option Addr} {x:Tr} (h:RwS w W g p x):W.cell? ⟨g,0,none⟩=some (.pointer p):=h.c1.cell (j:=0) (by omega)
structure RwT (w W:World) (g g2 g3:Nat) (p q p3:Option Addr) (x y:Tr):Prop where
 s:RwS w W g p x
 c2:W.cell? ⟨g2,0,none⟩=some (.pointer q)
 c3:W.cell? ⟨g3,0,none⟩=some (.pointer p3)
 ty:IsTr W (.pointer q) y
 tz:IsTr W (.pointer p3) x
theorem RwT.kept {w W W2:World} {g g2 g3:Nat} {p q p3:Option Addr} {x y:Tr} (h:RwT w W g g2 g3 p q p3 x y) (hb:Below W.heap.size W W2):RwT w W2 g g2 g3 p q p3 x y:=⟨h.s.kept hb,(hb.cell (block_lt_of_cell h.c2)).trans h.c2,(hb.cell (block_lt_of_cell h.c3)).trans h.c3,h.ty.below hb,h.tz.below hb⟩
theorem infoU8e:(Tryz.prog.info? 5).map (fun i=>i.size)=some 1:=by kernel_rfl
theorem cellsU8:Tryz.prog.cellsOf 5=1:=by kernel_rfl
theorem eqU8 (d:Nat) (a x:Int) (W:World):(Op.equalIn (d+1) 5 (.int .u8 a) (.int .u8 x)).run Tryz.prog W=.ok (a==x) W:=by
 simp [Op.equalIn,underlying,Tryz.underlying5]
theorem partU8 (xs:Array Value) (j:Nat) (v:Value) (h:xs[j]?=some v) (W:World):(part 5 xs j).run Tryz.prog W=.ok v W:=by
 simp [part,isAgg,underlying,Tryz.underlying5,h]
theorem eqDigD (d:Nat) (a b c x y z:Int) (W:World):(Op.equalIn (d+1+1) 50 (.agg #[.int .u8 a,.int .u8 b,.int .u8 c]) (.agg #[.int .u8 x,.int .u8 y,.int .u8 z])).run Tryz.prog W=.ok (if a=x then if b=y then decide (c=z) else false else false) W:=by
 obtain ⟨i,hi,hs⟩:=Option.map_eq_some_iff.1 infoU8e
 rw [run_equalIn_array W (d+1) _ _ Tryz.underlying50 hi,cellsU8]
 have p1:=partU8 #[.int .u8 a,.int .u8 b,.int .u8 c] 0 _ rfl
 have p2:=partU8 #[.int .u8 a,.int .u8 b,.int .u8 c] 1 _ rfl
 have p3:=partU8 #[.int .u8 a,.int .u8 b,.int .u8 c] 2 _ rfl
 have p4:=partU8 #[.int .u8 x,.int .u8 y,.int .u8 z] 0 _ rfl
 have p5:=partU8 #[.int .u8 x,.int .u8 y,.int .u8 z] 1 _ rfl
 have p6:=partU8 #[.int .u8 x,.int .u8 y,.int .u8 z] 2 _ rfl
 simp [Op.eqItems,List.range_succ,eqU8,p1,p2,p3,p4,p5,p6,Result.andThen]
 by_cases h1:a=x<;>by_cases h2:b=y<;>by_cases h3:c=z<;>simp [h1,h2,h3]
theorem eqDigG (a b c x y z:Int) (W:World):(Op.equalIn 10000 50 (.agg #[.int .u8 a,.int .u8 b,.int .u8 c]) (.agg #[.int .u8 x,.int .u8 y,.int .u8 z])).run Tryz.prog W=.ok (if a=x then if b=y then decide (c=z) else false else false) W:=eqDigD 9998 a b c x y z W
def ClV (w:World) (B:Nat) (v1 v2:Value):Option (List Int×List Int)→Prop
 | none=>v1=.slice none 0 0∧v2=.slice none 0 0
 | some (p,q)=>OwnB w B v1 p∧OwnB w B v2 q∧p≠[]∧q≠[]
theorem ClV.mono {w:World} {B B':Nat} {v1 v2:Value} {R:Option (List Int×List Int)} (h:ClV w B v1 v2 R) (hB:B'≤B):ClV w B' v1 v2 R:=by
 cases R with
 | none=>exact h
 | some z=>exact ⟨World.ownsRow.mono h.1 hB,World.ownsRow.mono h.2.1 hB,h.2.2⟩
structure ClS (w W:World) (px py:Option Addr):Prop where
 below:Below w.heap.size w W
 c1:W.cell? ⟨w.heap.size,0,none⟩=some (.pointer px)
 c2:W.cell? ⟨w.heap.size+1,0,none⟩=some (.pointer py)
theorem ClS.kept {w W W2:World} {px py:Option Addr} (h:ClS w W px py) (hb:Below W.heap.size W W2):ClS w W2 px py:=⟨h.below.trans (hb.mono h.below.size),(hb.cell (block_lt_of_cell h.c1)).trans h.c1,(hb.cell (block_lt_of_cell h.c2)).trans h.c2⟩
theorem ClS.new (w:World) (px py:Option Addr) (T:TypeId):ClS w ((w.alloc (.cells #[.pointer px] T)).alloc (.cells #[.pointer py] T)) px py:=by
 have c1:(w.alloc (.cells #[.pointer px] T)).cell? ⟨w.heap.size,0,none⟩=some (.pointer px):=(cell_of_row _ _ _ _ _ _ (heap_alloc_new w _)).trans rfl
 have c2:((w.alloc (.cells #[.pointer px] T)).alloc (.cells #[.pointer py] T)).cell? ⟨(w.alloc (.cells #[.pointer px] T)).heap.size,0,none⟩=some (.pointer py):=(cell_of_row _ _ _ _ _ _ (heap_alloc_new _ _)).trans rfl
 have hz:(w.alloc (.cells #[.pointer px] T)).heap.size=w.heap.size+1:=by simp
 rw [hz] at c2
 exact ⟨(below1' _ _).trans ((below1' _ _).mono (by simp)),((below1' _ _).cell (block_lt_of_cell c1)).trans c1,c2⟩
structure CwS (w W:World) (g1 g2:Nat) (p q p' q':Option Addr) (m m':Opn) (l r l' r':Tr):Prop where
 below:Below w.heap.size w W
 x1:Res3 W g1 103 43 p m q
 x2:Res3 W g2 103 43 p' m' q'
 tl:IsTr W (.pointer p) l
 tr:IsTr W (.pointer q) r
 tl':IsTr W (.pointer p') l'
 tr':IsTr W (.pointer q') r'
 env:Env W
theorem CwS.kept {w W W2:World} {g1 g2:Nat} {p q p' q':Option Addr} {m m':Opn} {l r l' r':Tr} (h:CwS w W g1 g2 p q p' q' m m' l r l' r') (hb:Below W.heap.size W W2):CwS w W2 g1 g2 p q p' q' m m' l r l' r':=⟨h.below.trans (hb.mono h.below.size),h.x1.kept hb,h.x2.kept hb,h.tl.below hb,h.tr.below hb,h.tl'.below hb,h.tr'.below hb,h.env.below hb⟩
theorem Tr.one:∀ {x y:Tr},x.H→y.H→x.list=y.list→x=y
 | ⟨none⟩,⟨none⟩,_,_,_=>rfl
 | ⟨none⟩,⟨some (o,rk,l,r)⟩,_,_,h=>by simp [Tr.list] at h
 | ⟨some (o,rk,l,r)⟩,⟨none⟩,_,_,h=>by simp [Tr.list] at h
 | ⟨some (o,rk,l,r)⟩,⟨some (o',rk',l',r')⟩,⟨h0,h1,h2,h3,h4⟩,⟨k0,k1,k2,k3,k4⟩,h=>by
  replace h:l.list++o::r.list=l'.list++o'::r'.list:=h
  have hl:l'.list.length=l.list.length:=by
   have hb:l'.list.length<(l.list++o::r.list).length:=by rw [h];simp
   have e:getO (l.list++o::r.list)[l'.list.length]?=o':=by rw [h,getO_at (by simp)];simp
   have ex:∀ j,j<(l.list++o::r.list).length→getO (l.list++o::r.list)[j]?∈l.list++o::r.list:=fun j hj=>by rw [getO_at hj];exact List.getElem_mem hj
   refine mid_one h1 h2 hb (fun j hj=>?_) (fun j hj1 hj2=>?_)
   ·rw [e]
    have:=ex j hj
    rw [h] at this
    rcases List.mem_append.1 this with q|q
    ·rw [← h] at q;exact k1 _ q
    ·rcases List.mem_cons.1 q with q|q
     ·rw [← h] at q;rw [q];exact Int.le_refl _
     ·rw [← h] at q;exact Int.le_of_lt (k2 _ q)
   ·rw [e]
    have hx:getO (l.list++o::r.list)[j]?∈r'.list:=by
     rw [h]
     rw [h] at hj2
     obtain ⟨d,rfl⟩:∃ d,j=l'.list.length+(d+1):=⟨j-l'.list.length-1,by omega⟩
     rw [List.getElem?_append_right (by omega),show l'.list.length+(d+1)-l'.list.length=d+1 by omega,List.getElem?_cons_succ]
     have hd:d<r'.list.length:=by simp at hj2;omega
     rw [getO_at hd]
     exact List.getElem_mem hd
    exact k2 _ hx
  obtain ⟨e1,e2⟩:=List.append_inj h hl.symm
  obtain ⟨e3,e4⟩:=List.cons.inj e2
  obtain rfl:=Tr.one h3 k3 e1
  obtain rfl:=Tr.one h4 k4 e4
  subst e3
  rw [h0,k0]
end Go.Proofs.YtgccjefbedpmpaaGreatDoor

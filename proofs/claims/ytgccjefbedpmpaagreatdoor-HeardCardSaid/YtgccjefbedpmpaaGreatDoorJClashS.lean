import Derived.Test.YtgccjefbedpmpaaGreatDoorJRoot
namespace Go.Proofs.YtgccjefbedpmpaaGreatDoor
open Go.RowKit
set_option maxRecDepth 100000
set_option maxHeartbeats 8000000
theorem infoU8e:(Tryz.prog.info? 5).map (fun i=>i.size)=some 1:=by kernel_rfl
theorem cellsU8:Tryz.prog.cellsOf 5=1:=by kernel_rfl
theorem eqU8 (d:Nat) (a x:Int) (W:World):(Op.equalIn (d+1) 5 (U8 a) (U8 x)).run Tryz.prog W=.ok (a==x) W:=by
 simp [Op.equalIn,underlying,Tryz.underlying5]
theorem partU8 (xs:Array Value) (j:Nat) (v:Value) (h:xs[j]?=some v) (W:World):(part 5 xs j).run Tryz.prog W=.ok v W:=by
 simp [part,isAgg,underlying,Tryz.underlying5,h]
theorem eqDigD (d:Nat) (a b c x y z:Int) (W:World):(Op.equalIn (d+1+1) 50 (.agg #[U8 a,U8 b,U8 c]) (.agg #[U8 x,U8 y,U8 z])).run Tryz.prog W=.ok (if a=x then if b=y then decide (c=z) else false else false) W:=by
 obtain ⟨i,hi,hs⟩:=yp.1 infoU8e;rw [run_equalIn_array W (d+1) _ _ Tryz.underlying50 hi,cellsU8];have p1:=partU8 #[U8 a,U8 b,U8 c] 0 _ rfl;have p2:=partU8 #[U8 a,U8 b,U8 c] 1 _ rfl;have p3:=partU8 #[U8 a,U8 b,U8 c] 2 _ rfl;have p4:=partU8 #[U8 x,U8 y,U8 z] 0 _ rfl;have p5:=partU8 #[U8 x,U8 y,U8 z] 1 _ rfl;have p6:=partU8 #[U8 x,U8 y,U8 z] 2 _ rfl;simp [Op.eqItems,List.range_succ,eqU8,p1,p2,p3,p4,p5,p6,Result.andThen];by_cases h1:a=x<;>by_cases h2:b=y<;>by_cases h3:c=z<;>simp [h1,h2,h3]
theorem eqDigG (a b c x y z:Int) (W:World):(Op.equalIn 10000 50 (.agg #[U8 a,U8 b,U8 c]) (.agg #[U8 x,U8 y,U8 z])).run Tryz.prog W=.ok (if a=x then if b=y then decide (c=z) else false else false) W:=eqDigD 9998 a b c x y z W
theorem Tr.one:∀ {x y:Tr},x.H→y.H→x.list=y.list→x=y
 | ⟨none⟩,⟨none⟩,_,_,_=>rfl
 | ⟨none⟩,⟨some (o,rk,l,r)⟩,_,_,h=>by simp [Tr.list] at h
 | ⟨some (o,rk,l,r)⟩,⟨none⟩,_,_,h=>by simp [Tr.list] at h
 | ⟨some (o,rk,l,r)⟩,⟨some (o',rk',l',r')⟩,⟨h0,h1,h2,h3,h4⟩,⟨k0,k1,k2,k3,k4⟩,h=>by
  replace h:l.list++o::r.list=l'.list++o'::r'.list:=h
  have hl:l'.list.length=l.list.length:=by
   have hb:l'.list.length<(l.list++o::r.list).length:=by rw [h];simp
   have e:getO (l.list++o::r.list)[l'.list.length]?=o':=by rw [h,getO_at (by simp)];simp
   have ex:∀ j,j<(l.list++o::r.list).length→getO (l.list++o::r.list)[j]?∈l.list++o::r.list:=fun j hj=>by rw [getO_at hj];exact qn hj
   refine mid_one h1 h2 hb (fun j hj=>?_) (fun j hj1 hj2=>?_)
   ·rw [e];have:=ex j hj;rw [h] at this;rcases zd.1 this with q|q
    ·rw [← h] at q;exact k1 _ q
    ·rcases qu.1 q with q|q
     ·rw [← h] at q;rw [q];exact Int.le_refl _
     ·rw [← h] at q;exact Int.le_of_lt (k2 _ q)
   ·rw [e]
    have hx:getO (l.list++o::r.list)[j]?∈r'.list:=by
     rw [h];rw [h] at hj2;obtain ⟨d,rfl⟩:∃ d,j=l'.list.length+(d+1):=⟨j-l'.list.length-1,by omega⟩;rw [j9 (by omega),show l'.list.length+(d+1)-l'.list.length=d+1 by omega,List.getElem?_cons_succ];have hd:d<r'.list.length:=by simp at hj2;omega
     rw [getO_at hd];exact qn hd
    exact k2 _ hx
  obtain ⟨e1,e2⟩:=List.append_inj h hl.symm;obtain ⟨e3,e4⟩:=kj e2;obtain rfl:=Tr.one h3 k3 e1;obtain rfl:=Tr.one h4 k4 e4;subst e3;rw [h0,k0]

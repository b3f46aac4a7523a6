import Derived.Test.YtgccjefbedpmpaaGreatDoorYLess
import Derived.Test.YtgccjefbedpmpaaGreatDoorYHold
import Derived.ArgAppend
import Derived.Deep.Upon
import Derived.Deep.AppendLies
namespace Go.Proofs.YtgccjefbedpmpaaGreatDoor
open Go.RowKit
set_option maxRecDepth 100000
set_option maxHeartbeats 8000000
theorem setCells_row (g:Nat) (e:TypeId):∀ (vs:List Value) (o:Nat) (w:World) (cur:Array Value),w.heap[g]?=some (.cells cur e (0,0))→o+vs.length≤cur.size →
  ∃ cur',(w.setCells g o vs).heap[g]?=some (.cells cur' e (0,0))∧cur'.size=cur.size∧(∀ j,j<o→cur'[j]?=cur[j]?)∧∀ j,j<vs.length→cur'[o+j]?=vs[j]?
 | [],_,w,cur,h,_=>⟨cur,h,rfl,fun _ _=>rfl,fun j hj=>absurd hj (by simp)⟩
 | v::r,o,w,cur,h,hl=>by
  have hl':o+(r.length+1)≤cur.size:=hl
  obtain ⟨cur',h1,h2,h3,h4⟩:=setCells_row g e r (o+1) (w.setCell ⟨g,o,none⟩ v) (cur.setIfInBounds o v) (heap_setCell_same _ _ _ _ _ _ h) (by simp;omega)
  refine ⟨cur',h1,by simpa using h2,fun j hj=>?_,fun j hj=>?_⟩
  ·rw [h3 j (by omega),Array.getElem?_setIfInBounds,if_neg (by omega)]
  ·match j with
   | 0=>rw [Nat.add_zero,h3 o (by omega),Array.getElem?_setIfInBounds,if_pos rfl,if_pos (by omega)];rfl
   | j+1=>
    have:=h4 j (by simpa using hj)
    rw [show o+(j+1)=o+1+j by omega,this];rfl
theorem setCells_size (g:Nat):∀ (vs:List Value) (o:Nat) (w:World),(w.setCells g o vs).heap.size=w.heap.size∧(w.setCells g o vs).tape=w.tape
 | [],_,_=>⟨rfl,rfl⟩
 | v::r,o,w=>by
  obtain ⟨h1,h2⟩:=setCells_size g r (o+1) (w.setCell ⟨g,o,none⟩ v)
  exact ⟨by rw [World.setCells,h1];simp [World.setCell],by rw [World.setCells,h2];rfl⟩
structure Grew (e size n:Nat) (v v':Value) (w w':World):Prop where
 but:But (fun b=>v.ownBlock=some b) w w'
 pre:∀ g cur,v.ownBlock=some g→w.heap[g]?=some (.cells cur e (0,0))→∃ cur',w'.heap[g]?=some (.cells cur' e (0,0))∧cur'.size=cur.size∧cur'.toList.take (n*size)=cur.toList.take (n*size)
 lies:v'.ownBlock=v.ownBlock∨∃ g,v'.ownBlock=some g∧w.heap.size≤g
theorem Grew.of_grown {e size n:Nat} {v v':Value} {w w':World} (hg:w.grownBy w' none) (hlt:∀ g,v.ownBlock=some g→g<w.heap.size) (hl:v'.ownBlock=v.ownBlock∨∃ g,v'.ownBlock=some g∧w.heap.size≤g):Grew e size n v v' w w':=
 ⟨⟨hg.size,hg.os,hg.tape,hg.output,fun b hb _=>hg.block b hb (by simp)⟩,fun g cur hv hc=>⟨cur,(hg.block g (hlt g hv) (by simp)).trans hc,rfl,rfl⟩,hl⟩
theorem take_eq_of {a b:List Value} {k:Nat} (h:∀ j,j<k→a[j]?=b[j]?):a.take k=b.take k:=by
 apply List.ext_getElem?
 intro j
 by_cases hj:j<k
 ·rw [List.getElem?_take_of_lt hj,List.getElem?_take_of_lt hj,h j hj]
 ·rw [List.getElem?_eq_none (by simp;omega),List.getElem?_eq_none (by simp;omega)]
theorem run_append_keep {P:Program} (w:World) (t ty e:TypeId) (i:TypeInfo) (z:Value) (size bytes:Nat) (ht:P.underlying t=some (.slice e)) (hi:P.info? e=some i) (hz:i.zero=some z)
  (hsize:i.size=size) (hby:i.bytes=bytes) (hzs:z.cells.size=size) (hsz:0<size) (v:Value) (n:Nat) (xs:List Value) (hown:w.ownsRow 0 e size v n xs)
  (a:Addr) (m c:Nat) (news:List Value) (hl:news.length=m*size) (hnews:∀ j u,news[j]?=some u→w.cell? (a.add j)=some u) (h1:∀ u∈news,u.oneCell'=true)
  (_hm:0<m) (h63:n+m≤maxLen) (hbytes:(n+m)*bytes≤140737488355328) :
  ∃ v' w',(Builtin.append_ #[t,t] ty #[v,.slice (some a) m c]).run P w=.ok v' w'∧w'.ownsRow 0 e size v' (n+m) (xs++news)∧Grew e size n v v' w w':=by
 have hlt:=fun g hg=>(hown.lt g hg).2
 rcases hown.2 with ⟨rfl,rfl⟩|⟨g,cap,cur,rfl,h3,h4,h5,h6,h7,h8⟩
 ·obtain ⟨v',w',hr,ho,hg,hn,hb⟩:=run_append_own_at (P:=P) w 0 t ty e i z size bytes ht hi hz hsize hby hzs hsz _ _ xs hown a m c news hl hnews h1 h63 hbytes (Nat.zero_le _)
  exact ⟨v',w',hr,ho,Grew.of_grown hg hlt (hb.elim Or.inl fun hb=>Or.inr ⟨_,hb,Nat.le_refl _⟩)⟩
 ·have hxl:xs.length=n*size:=hown.1
  by_cases hroom:n+m≤cap
  ·have hmul:n*size+m*size≤cap*size:=by rw [← Nat.add_mul];exact Nat.mul_le_mul_right _ hroom
   obtain ⟨cur',k1,k2,k3,k4⟩:=setCells_row g e news (n*size) w cur h4 (by omega)
   have hpre:cur'.toList.take (n*size)=cur.toList.take (n*size):=take_eq_of fun j hj=>by simpa using k3 j hj
   have hrun:=run_append_room_cells (P:=P) w t ty e i ht hi g 0 n cap a m c news (by rw [hl,hsize]) hnews h1 hroom (fun j hj=>by
    rw [hsize,Nat.zero_add,cell_of_row _ _ _ _ _ _ h4,Array.getElem?_eq_getElem (by omega)];rfl) (fun j hj=>frozen_of_row _ _ _ _ _ h4)
   rw [hsize,Nat.zero_add] at hrun
   refine ⟨_,_,hrun,⟨by rw [List.length_append,hxl,hl,Nat.add_mul],.inr ⟨g,cap,cur',rfl,Nat.zero_le _,k1,hroom,h6,by rw [k2,h7],?_⟩⟩,⟨?_,?_,Or.inl rfl⟩⟩
   ·apply List.ext_getElem?
    intro j
    by_cases hj:j<n*size
    ·rw [List.getElem?_append_left (by omega),← h8,← hpre,List.getElem?_take_of_lt hj,List.getElem?_take_of_lt (by rw [Nat.add_mul];omega)]
    ·by_cases hj2:j<(n+m)*size
     ·have hj3:j-n*size<news.length:=by rw [Nat.add_mul] at hj2;omega
      have:=k4 (j-n*size) hj3
      rw [show n*size+(j-n*size)=j by omega] at this
      rw [List.getElem?_append_right (by omega),hxl,List.getElem?_take_of_lt hj2,Array.getElem?_toList,this]
     ·rw [List.getElem?_eq_none (by simp;omega),List.getElem?_eq_none (by rw [List.length_append,hxl,hl,← Nat.add_mul];omega)]
   ·obtain ⟨s1,s2⟩:=setCells_size g news (n*size) w
    refine ⟨by rw [s1];exact Nat.le_refl _,World.os_setCells _ _ _ _,s2,World.output_setCells _ _ _ _,fun b hb hx=>World.heap_setCells_other _ _ _ _ hb (fun e=>hx (by rw [e];rfl))⟩
   ·intro g' cur0 hg' hc0
    cases hg'
    rw [h4] at hc0;cases hc0
    exact ⟨cur',k1,k2,hpre⟩
  ·obtain ⟨v',w',hr,ho,hg⟩:=run_append_arg_grows (P:=P) w t ty e i z size bytes ht hi hz hsize hby hzs hsz ⟨g,0,none⟩ n cap xs hxl (fun j u hj=>hown.cells rfl j u hj) a m c news hl hnews (by omega) h63 hbytes
   obtain ⟨g',cap',rfl,hg1,_⟩:=ho.form (by omega)
   refine ⟨_,w',hr,⟨ho.1,?_⟩,Grew.of_grown hg hlt (Or.inr ⟨g',rfl,hg1⟩)⟩
   rcases ho.2 with ⟨h,_⟩|⟨g2,c2,cur2,q1,q2,q3⟩
   ·cases h
   ·exact .inr ⟨g2,c2,cur2,q1,Nat.zero_le _,q3⟩
theorem Grew.kept {e size n:Nat} {v v':Value} {w w':World} (h:Grew e size n v v' w w') {u:Value} {n':Nat} {xs:List Value} {e' size':Nat} (hu:w.ownsRow 0 e' size' u n' xs) (hn:u.ownBlock=v.ownBlock→e'=e∧size'=size∧n'≤n):w'.ownsRow 0 e' size' u n' xs:=by
 by_cases hb:u.ownBlock=v.ownBlock
 ·obtain ⟨rfl,rfl,hle⟩:=hn hb
  refine ⟨hu.1,?_⟩
  rcases hu.2 with h2|⟨g,cap,cur,rfl,h3,h4,h5,h6,h7,h8⟩
  ·exact .inl h2
  ·obtain ⟨cur',k1,k2,k3⟩:=h.pre g cur (by rw [← hb];rfl) h4
   refine .inr ⟨g,cap,cur',rfl,h3,k1,h5,h6,by rw [k2,h7],?_⟩
   have hm:n'*size'≤n*size':=Nat.mul_le_mul_right _ hle
   have e1:∀ l:List Value,(l.take (n*size')).take (n'*size')=l.take (n'*size'):=fun l=>by rw [List.take_take,Nat.min_eq_left hm]
   rw [← h8,← e1 cur'.toList,k3,e1]
 ·exact own_frame hu fun g hg=>h.but.block g (hu.lt g hg).2 (fun e=>hb (hg.trans e.symm))
theorem wp_append_keep {P:Program} {o:Oper} {a:Act} {w:World} {K:Act→World→Prop} {Q:Exit→Act→World→Prop} (s x:Operand) (t:TypeId) (ho:o.op=.call { callee:=.builtin .append,args:=#[s,x],argTypes:=#[t,t] })
  (e:TypeId) (i:TypeInfo) (z:Value) (size bytes:Nat) (ht:P.underlying t=some (.slice e)) (hi:P.info? e=some i) (hz:i.zero=some z) (hsize:i.size=size) (hby:i.bytes=bytes) (hzs:z.cells.size=size) (hsz:0<size)
  (v:Value) (n:Nat) (xs:List Value) (hs:a.eval s=v) (hown:w.ownsRow 0 e size v n xs) (ad:Addr) (m c:Nat) (news:List Value) (hx:a.eval x=.slice (some ad) m c) (hl:news.length=m*size) (hnews:∀ j u,news[j]?=some u→w.cell? (ad.add j)=some u) (h1:∀ u∈news,u.oneCell'=true)
  (hm:0<m) (h63:n+m≤maxLen) (hbytes:(n+m)*bytes≤140737488355328)
  (h:∀ v' w',w'.ownsRow 0 e size v' (n+m) (xs++news)→Grew e size n v v' w w'→K (a.put o.dst v') w'):o.wp P a w K Q:=by
 obtain ⟨v',w',hrun,r1,r2⟩:=run_append_keep (P:=P) w t o.type e i z size bytes ht hi hz hsize hby hzs hsz v n xs hown ad m c news hl hnews h1 hm h63 hbytes
 unfold Oper.wp
 simp [execOp,ho,resolve,invoke,builtin,hs,hx,hrun,Result.andThen]
 exact h v' w' r1 r2
theorem wpList_append_keep {P:Program} (w:World) {ops:Array Oper} {rest:List Oper} {o:Oper} {a:Act} {Q:Exit→Act→World→Prop} (hgd:o.guard=none) (s x:Operand) (t:TypeId) (ho:o.op=.call { callee:=.builtin .append,args:=#[s,x],argTypes:=#[t,t] })
  (e:TypeId) (i:TypeInfo) (z:Value) (size bytes:Nat) (ht:P.underlying t=some (.slice e)) (hi:P.info? e=some i) (hz:i.zero=some z) (hsize:i.size=size) (hby:i.bytes=bytes) (hzs:z.cells.size=size) (hsz:0<size)
  (v:Value) (n:Nat) (xs:List Value) (hs:a.eval s=v) (hown:w.ownsRow 0 e size v n xs) (ad:Addr) (m c:Nat) (news:List Value) (hx:a.eval x=.slice (some ad) m c) (hl:news.length=m*size) (hnews:∀ j u,news[j]?=some u→w.cell? (ad.add j)=some u) (h1:∀ u∈news,u.oneCell'=true)
  (hm:0<m) (h63:n+m≤maxLen) (hbytes:(n+m)*bytes≤140737488355328)
  (h:∀ v' w',w'.ownsRow 0 e size v' (n+m) (xs++news)→Grew e size n v v' w w'→wpList P ops Q rest (a.put o.dst v') w'):wpList P ops Q (o::rest) a w:=
 wpList_plain hgd fun _ hK=>wp_append_keep s x t ho e i z size bytes ht hi hz hsize hby hzs hsz v n xs hs hown ad m c news hx hl hnews h1 hm h63 hbytes fun v' w' h2 h3=>hK _ _ (h v' w' h2 h3)
theorem step_append_keep {P:Program} (w:World) {ops:Array Oper} {o:Oper} {a:Act} {K:Act→World→Prop} {Q:Exit→Act→World→Prop} {E:Prop} (hgd:o.guard=none) (s x:Operand) (t:TypeId) (ho:o.op=.call { callee:=.builtin .append,args:=#[s,x],argTypes:=#[t,t] })
  (e:TypeId) (i:TypeInfo) (z:Value) (size bytes:Nat) (ht:P.underlying t=some (.slice e)) (hi:P.info? e=some i) (hz:i.zero=some z) (hsize:i.size=size) (hby:i.bytes=bytes) (hzs:z.cells.size=size) (hsz:0<size)
  (v:Value) (n:Nat) (xs:List Value) (hs:a.eval s=v) (hown:w.ownsRow 0 e size v n xs) (ad:Addr) (m c:Nat) (news:List Value) (hx:a.eval x=.slice (some ad) m c) (hl:news.length=m*size) (hnews:∀ j u,news[j]?=some u→w.cell? (ad.add j)=some u) (h1:∀ u∈news,u.oneCell'=true)
  (hm:0<m) (h63:n+m≤maxLen) (hbytes:(n+m)*bytes≤140737488355328)
  (h:∀ v' w',w'.ownsRow 0 e size v' (n+m) (xs++news)→Grew e size n v v' w w'→K (a.put o.dst v') w'):if Region.wanted o (yielded ops a.tmps)=true then Oper.wp P o a w K Q else E:=by
 have hw:Region.wanted o (yielded ops a.tmps)=true:=by simp [Region.wanted,hgd]
 rw [if_pos hw]
 exact wp_append_keep s x t ho e i z size bytes ht hi hz hsize hby hzs hsz v n xs hs hown ad m c news hx hl hnews h1 hm h63 hbytes h
theorem infoB:(Tryz.prog.info? 5).map (fun i=>(i.zero,i.size,i.bytes))=some (some (.int .u8 0),1,1):=by kernel_rfl
theorem infoO:(Tryz.prog.info? 43).map (fun i=>(i.zero,i.size,i.bytes))=some (some (.agg #[.int .i64 0,.int .u32 0,.int .u32 0,.int .u32 0,.int .u64 0,.int .i32 0]),6,40):=by kernel_rfl
theorem infoL:(Tryz.prog.info? 59).map (fun i=>(i.zero,i.size,i.bytes))=some (some (.slice none 0 0),1,24):=by kernel_rfl
theorem RowIs.drewM {w:World} {g:Nat} {t:TypeId} {n:Nat} {f:Nat→Value} (h:RowIs w g t n f) (k:Nat):RowIs (w.drewN k) g t n f:=h
theorem Grew.row {e size n:Nat} {v v':Value} {w w':World} (h:Grew e size n v v' w w') {xs:List Value} (ho:w.ownsRow 0 e size v n xs) {g t k:Nat} {f:Nat→Value} (hr:RowIs w g t k f) (he:e≠t):RowIs w' g t k f:=
 hr.but h.but (fun e1=>row_apart ho hr he e1 rfl)
theorem own_below {w w':World} {e size n:Nat} {v:Value} {xs:List Value} (h:w.ownsRow 0 e size v n xs) (hb:Below w.heap.size w w'):w'.ownsRow 0 e size v n xs:=own_frame h fun g hg=>hb.block g (h.lt g hg).2
theorem own_set {w:World} {e size n:Nat} {v:Value} {xs:List Value} (h:w.ownsRow 0 e size v n xs) {g t k:Nat} {f:Nat→Value} (hr:RowIs w g t k f) (he:e≠t) (j:Nat) (u:Value):(w.setCell ⟨g,j,none⟩ u).ownsRow 0 e size v n xs:=
 own_frame h fun _ hg'=>heap_setCell_other _ _ _ _ (fun e1=>row_apart h hr he hg' e1)
structure Kept (w w':World) (vb vo vl:Value) (nb no nl:Nat):Prop where
 but:But (ownX vb vo vl) w w'
 own:∀ e size u n xs,w.ownsRow 0 e size u n xs→(u.ownBlock≠none→u.ownBlock=vb.ownBlock→e=5∧size=1∧n≤nb)→(u.ownBlock≠none→u.ownBlock=vo.ownBlock→e=43∧size=6∧n≤no)→(u.ownBlock≠none→u.ownBlock=vl.ownBlock→e=59∧size=1∧n≤nl)→w'.ownsRow 0 e size u n xs
theorem Kept.below {w w':World} {vb vo vl:Value} {nb no nl:Nat} (h:Below w.heap.size w w'):Kept w w' vb vo vl nb no nl:=
 ⟨But.below h,fun _ _ _ _ _ ho _ _ _=>own_below ho h⟩
theorem Kept.trans {a b c:World} {vb vo vl:Value} {nb no nl:Nat} (h:Kept a b vb vo vl nb no nl) (k:Kept b c vb vo vl nb no nl):Kept a c vb vo vl nb no nl:=
 ⟨h.but.trans k.but,fun e size u n xs ho h1 h2 h3=>k.own e size u n xs (h.own e size u n xs ho h1 h2 h3) h1 h2 h3⟩
theorem Kept.set {a b:World} {vb vo vl:Value} {nb no nl:Nat} (h:Kept a b vb vo vl nb no nl) {p:Addr} (hp:a.heap.size≤p.block) (v:Value):Kept a (b.setCell p v) vb vo vl nb no nl:=
 ⟨h.but.setCell (Or.inr hp) v,fun e size u n xs ho h1 h2 h3=>own_frame (h.own e size u n xs ho h1 h2 h3) fun g hg=>heap_setCell_other _ _ _ _ (fun e1=>by have:=(ho.lt g hg).2;omega)⟩
theorem own_none {w w':World} {e size n:Nat} {u:Value} {xs:List Value} (h:w.ownsRow 0 e size u n xs) (hu:u.ownBlock=none):w'.ownsRow 0 e size u n xs:=own_frame h fun g hg=>by rw [hu] at hg;cases hg
theorem Kept.grewB {w w':World} {vb vo vl v':Value} {nb no nl:Nat} (h:Grew 5 1 nb vb v' w w'):Kept w w' vb vo vl nb no nl:=
 ⟨h.but.mono fun _ e=>Or.inl e,fun e size u n xs ho h1 _ _=>by
  by_cases hu:u.ownBlock=none
  ·exact own_none ho hu
  ·exact h.kept ho (h1 hu)⟩
theorem Kept.grewO {w w':World} {vb vo vl v':Value} {nb no nl:Nat} (h:Grew 43 6 no vo v' w w'):Kept w w' vb vo vl nb no nl:=
 ⟨h.but.mono fun _ e=>Or.inr (Or.inl e),fun e size u n xs ho _ h1 _=>by
  by_cases hu:u.ownBlock=none
  ·exact own_none ho hu
  ·exact h.kept ho (h1 hu)⟩
theorem Kept.grewL {w w':World} {vb vo vl v':Value} {nb no nl:Nat} (h:Grew 59 1 nl vl v' w w'):Kept w w' vb vo vl nb no nl:=
 ⟨h.but.mono fun _ e=>Or.inr (Or.inr e),fun e size u n xs ho _ _ h1=>by
  by_cases hu:u.ownBlock=none
  ·exact own_none ho hu
  ·exact h.kept ho (h1 hu)⟩
theorem Kept.raw {w w':World} {hb:Nat} {mk:Int} {vb vo vl:Value} {nb no nl:Nat} {xb xo xl:List Value} (h:HoldRaw w hb mk vb vo vl nb no nl xb xo xl) (k:Kept w w' vb vo vl nb no nl):HoldRaw w' hb mk vb vo vl nb no nl xb xo xl:=
 ⟨h.row.but k.but (fun e=>by
   rcases e with e|e|e
   ·exact row_apart h.ob h.row (by decide) e rfl
   ·exact row_apart h.oo h.row (by decide) e rfl
   ·exact row_apart h.ol h.row (by decide) e rfl),
  k.own _ _ _ _ _ h.ob (fun _ _=>⟨rfl,rfl,Nat.le_refl _⟩) (fun hn e=>absurd e.symm (fun e'=>by
   cases hb':vb.ownBlock with
   | none=>exact hn hb'
   | some g=>exact own_apart h.ob h.oo (by decide) hb' (by rw [e',hb']))) (fun hn e=>absurd e.symm (fun e'=>by
   cases hb':vb.ownBlock with
   | none=>exact hn hb'
   | some g=>exact own_apart h.ob h.ol (by decide) hb' (by rw [e',hb']))),
  k.own _ _ _ _ _ h.oo (fun hn e=>absurd e.symm (fun e'=>by
   cases hb':vo.ownBlock with
   | none=>exact hn hb'
   | some g=>exact own_apart h.oo h.ob (by decide) hb' (by rw [e',hb']))) (fun _ _=>⟨rfl,rfl,Nat.le_refl _⟩) (fun hn e=>absurd e.symm (fun e'=>by
   cases hb':vo.ownBlock with
   | none=>exact hn hb'
   | some g=>exact own_apart h.oo h.ol (by decide) hb' (by rw [e',hb']))),
  k.own _ _ _ _ _ h.ol (fun hn e=>absurd e.symm (fun e'=>by
   cases hb':vl.ownBlock with
   | none=>exact hn hb'
   | some g=>exact own_apart h.ol h.ob (by decide) hb' (by rw [e',hb']))) (fun hn e=>absurd e.symm (fun e'=>by
   cases hb':vl.ownBlock with
   | none=>exact hn hb'
   | some g=>exact own_apart h.ol h.oo (by decide) hb' (by rw [e',hb']))) (fun _ _=>⟨rfl,rfl,Nat.le_refl _⟩)⟩
theorem u64r (x:Int) (h:0≤x∧x≤18446744073709551615):IntKind.u64.wrap x=x:=by
 have e:IntKind.u64.wrap x=x % 18446744073709551616:=by
  simp [IntKind.wrap,IntKind.bits,IntKind.signed]
 rw [e];omega
theorem Grew.apart {e size n:Nat} {v v':Value} {w w':World} (h:Grew e size n v v' w w') {xs:List Value} (hv:w.ownsRow 0 e size v n xs) {e' size' n':Nat} {u:Value} {ys:List Value} (hu:w.ownsRow 0 e' size' u n' ys) (he:e'≠e):w'.ownsRow 0 e' size' u n' ys:=by
 cases hb:u.ownBlock with
 | none=>exact own_none hu hb
 | some g=>exact h.kept hu fun e1=>absurd (e1.symm.trans hb) (own_apart hu hv he hb)
structure Mid (w w':World) (mk:Int) (vb vo vl:Value) (nb no nl:Nat) (V1 V2 V3:Value):Prop where
 kept:Kept w w' vb vo vl nb no nl
 row:RowIs w' w.heap.size 161 4 (hold4 V1 V2 V3 mk)
 lstB:w'.heap[w.heap.size+1]?=some (.cells (lst mk) 5 (0,0))
 lie1:∀ b,V1.ownBlock=some b→vb.ownBlock=some b∨w.heap.size+1<b
 lie2:∀ b,V2.ownBlock=some b→vo.ownBlock=some b∨w.heap.size+1<b
 lie3:∀ b,V3.ownBlock=some b→vl.ownBlock=some b∨w.heap.size+1<b
theorem Mid.lt {w w':World} {mk:Int} {vb vo vl:Value} {nb no nl:Nat} {V1 V2 V3:Value} (h:Mid w w' mk vb vo vl nb no nl V1 V2 V3):w.heap.size+1<w'.heap.size:=by
 have:=h.lstB
 rcases Nat.lt_or_ge (w.heap.size+1) w'.heap.size with h1|h1
 ·exact h1
 ·rw [Array.getElem?_eq_none h1] at this;cases this
theorem Mid.below {w a b:World} {mk:Int} {vb vo vl:Value} {nb no nl:Nat} {V1 V2 V3:Value} (h:Mid w a mk vb vo vl nb no nl V1 V2 V3) (hb:Below a.heap.size a b):Mid w b mk vb vo vl nb no nl V1 V2 V3:=
 ⟨h.kept.trans (Kept.below hb),h.row.below hb h.row.lt,(hb.block _ h.lt).trans h.lstB,h.lie1,h.lie2,h.lie3⟩
theorem Mid.lstKept {w a b:World} {mk:Int} {vb vo vl:Value} {nb no nl:Nat} {V1 V2 V3 v:Value} (h:Mid w a mk vb vo vl nb no nl V1 V2 V3) (hv:∀ g,v.ownBlock=some g→g<w.heap.size) (g:But (fun b=>v.ownBlock=some b) a b) (j:Nat) (u:Value) :
  (b.setCell ⟨w.heap.size,j,none⟩ u).heap[w.heap.size+1]?=some (.cells (lst mk) 5 (0,0)):=
 (heap_setCell_other _ _ _ _ (by show w.heap.size+1≠w.heap.size;omega)).trans ((g.block _ h.lt fun e=>by have:=hv _ e;omega).trans h.lstB)
theorem Mid.grewB {w a b:World} {hb:Nat} {mk:Int} {vb vo vl:Value} {nb no nl:Nat} {xb xo xl:List Value} {V1 V2 V3 V:Value} (h:Mid w a mk vb vo vl nb no nl V1 V2 V3) (hr:HoldRaw w hb mk vb vo vl nb no nl xb xo xl) (g:Grew 5 1 nb vb V a b) :
  Mid w (b.setCell ⟨w.heap.size,0,none⟩ V) mk vb vo vl nb no nl V V2 V3:=
 ⟨(h.kept.trans (Kept.grewB g)).set (Nat.le_refl _) _,((g.row (h.kept.raw hr).ob h.row (by decide)).set 0 V).congr (fun j hj=>by match j with|0=>rfl|1=>rfl|2=>rfl|3=>rfl),
  h.lstKept (fun x hx=>(hr.ob.lt x hx).2) g.but 0 V,(fun x hx=>by
   rcases g.lies with e|⟨y,e1,e2⟩
   ·exact Or.inl (e▸hx)
   ·rw [e1] at hx;cases hx;have:=h.lt;exact Or.inr (by omega)),h.lie2,h.lie3⟩
theorem Mid.grewO {w a b:World} {hb:Nat} {mk:Int} {vb vo vl:Value} {nb no nl:Nat} {xb xo xl:List Value} {V1 V2 V3 V:Value} (h:Mid w a mk vb vo vl nb no nl V1 V2 V3) (hr:HoldRaw w hb mk vb vo vl nb no nl xb xo xl) (g:Grew 43 6 no vo V a b) :
  Mid w (b.setCell ⟨w.heap.size,1,none⟩ V) mk vb vo vl nb no nl V1 V V3:=
 ⟨(h.kept.trans (Kept.grewO g)).set (Nat.le_refl _) _,((g.row (h.kept.raw hr).oo h.row (by decide)).set 1 V).congr (fun j hj=>by match j with|0=>rfl|1=>rfl|2=>rfl|3=>rfl),
  h.lstKept (fun x hx=>(hr.oo.lt x hx).2) g.but 1 V,h.lie1,(fun x hx=>by
   rcases g.lies with e|⟨y,e1,e2⟩
   ·exact Or.inl (e▸hx)
   ·rw [e1] at hx;cases hx;have:=h.lt;exact Or.inr (by omega)),h.lie3⟩
theorem Mid.grewL {w a b:World} {hb:Nat} {mk:Int} {vb vo vl:Value} {nb no nl:Nat} {xb xo xl:List Value} {V1 V2 V3 V:Value} (h:Mid w a mk vb vo vl nb no nl V1 V2 V3) (hr:HoldRaw w hb mk vb vo vl nb no nl xb xo xl) (g:Grew 59 1 nl vl V a b) :
  Mid w (b.setCell ⟨w.heap.size,2,none⟩ V) mk vb vo vl nb no nl V1 V2 V:=
 ⟨(h.kept.trans (Kept.grewL g)).set (Nat.le_refl _) _,((g.row (h.kept.raw hr).ol h.row (by decide)).set 2 V).congr (fun j hj=>by match j with|0=>rfl|1=>rfl|2=>rfl|3=>rfl),
  h.lstKept (fun x hx=>(hr.ol.lt x hx).2) g.but 2 V,h.lie1,h.lie2,(fun x hx=>by
   rcases g.lies with e|⟨y,e1,e2⟩
   ·exact Or.inl (e▸hx)
   ·rw [e1] at hx;cases hx;have:=h.lt;exact Or.inr (by omega))⟩
theorem signs_succ (mk:Int) (n:Nat):signs mk (n+1)=signs mk n++[.int .u8 (sg mk n)]:=by simp [signs,List.range_succ]
theorem opms_succ (mk:Int) (n:Nat):opms mk (n+1)=opms mk n++[.int .i64 9,.int .u32 0,.int .u32 0,.int .u32 0,.int .u64 mk,.int .i32 0]:=by
 unfold opms
 rw [Nat.add_mul,Nat.one_mul,List.range_add,List.map_append]
 congr 1
 simp [List.range_succ,opc]
theorem longer_any {hb:Nat} {mk:Int} {vb vo vl:Value} {nb no nl:Nat} {ls:List Value} {w:World} (h:HoldRaw w hb mk vb vo vl nb no nl (signs mk nb) (opms mk no) ls) (hmk:0≤mk) (hmk2:mk≤9223372036854775807)
  (s1:nb+1≤140737488355328) (s2:(no+1)*40≤140737488355328) (s3:(nl+1)*24≤140737488355328) :
  Calls Tryz.prog 142 #[.pointer (some ⟨hb,0,none⟩)] w fun e w'=>e=.returned (.pointer (some ⟨w.heap.size,0,none⟩))∧∃ V1 V2 V3,HoldRaw w' w.heap.size mk V1 V2 V3 (nb+1) (no+1) (nl+1) (signs mk (nb+1)) (opms mk (no+1)) (ls++[.slice (some ⟨w.heap.size+1,0,none⟩) 3 3])∧Mid w w' mk vb vo vl nb no nl V1 V2 V3:=by
 obtain ⟨ib,bi,bz0,bz1,bz2⟩:=info_parts infoB
 obtain ⟨io,oi,oz0,oz1,oz2⟩:=info_parts infoO
 obtain ⟨il,li,lz0,lz1,lz2⟩:=info_parts infoL
 have h0:w.cell? ⟨hb,0,none⟩=some vb:=h.row.cell (by omega)
 have h1:w.cell? ⟨hb,1,none⟩=some vo:=h.row.cell (by omega)
 have h2:w.cell? ⟨hb,2,none⟩=some vl:=h.row.cell (by omega)
 have h3:w.cell? ⟨hb,3,none⟩=some (.int .i64 mk):=h.row.cell (by omega)
 obtain ⟨ab,cb,rfl,-⟩:=own_viewN h.ob
 have hbl:=h.row.lt
 go_enter Tryz.func142,Tryz.ntmps142
 go_wp2
 go_quiet ((go_at_call 151;refine (sign_any _ _ _).mono ?_;rintro e w' ⟨rfl,rfl⟩;first|exact ⟨rfl,_,rfl⟩))
 have hB1:Below w.heap.size w (((w.alloc (.cells #[.slice none 0 0,.slice none 0 0,.slice none 0 0,.int .i64 mk] 161)).drewN nq).alloc (.cells (lst mk) 5)):=(below_drewN ((Below.refl _ _).alloc (Nat.le_refl _) _) _).alloc (by simp) _
 have hB2:=hB1.alloc hB1.size (.cells #[.int .u8 (sg mk nb)] 5)
 have rB0:=((RowIs.drewM (RowIs.last (w:=w) (t:=161) (cs:=#[.slice none 0 0,.slice none 0 0,.slice none 0 0,.int .i64 mk]) (n:=4) (f:=hold4 (.slice none 0 0) (.slice none 0 0) (.slice none 0 0) mk) rfl rfl) nq).alloc (.cells (lst mk) 5)).alloc (.cells #[.int .u8 (sg mk nb)] 5)
 have hM0:Mid w _ mk (.slice ab nb cb) vo vl nb no nl (.slice none 0 0) (.slice none 0 0) (.slice none 0 0):=⟨Kept.below hB2,rB0,(heap_old (by simp)).trans (heap_last (by simp)),fun b hx=>(by cases hx),fun b hx=>(by cases hx),fun b hx=>(by cases hx)⟩
 go_wp2_with (first
  | (go_at_call 152;refine (listed_any _ _).mono ?_;rintro e w' ⟨rfl,rfl⟩)
  | (at_builtin;refine wpList_append_keep _ rfl (.tmp 31) (.tmp 33) 59 rfl 5 ib (.int .u8 0) 1 1 Tryz.underlying59 bi bz0 bz1 bz2 rfl (by decide) (.slice ab nb cb) nb (signs mk nb) rfl (own_below h.ob hB2) ⟨w.heap.size+2,0,none⟩ 1 1 [.int .u8 (sg mk nb)] rfl rfl ?hn (by simp [Value.oneCell']) (by omega) (by unfold maxLen;omega) (by omega) ?_;(case hn=>exact World.news_of_block (heap_last (by simp)));intro v1 w1 ho1 hg1;obtain ⟨a1,c1,rfl,-⟩:=own_viewN ho1;have hM1:=hM0.grewB h hg1;have ho1':=own_set ho1 (hg1.row (own_below h.ob hB2) rB0 (by decide)) (by decide) 0 (.slice a1 (nb+1) c1);have rB:=hg1.row (own_below h.ob hB2) rB0 (by decide);have b0:=rB.cell (show 0<4 by omega);have fb:=rB.free 0))
 obtain ⟨wA,hwA⟩:∃ x,x=w1.setCell ⟨w.heap.size,0,none⟩ (.slice a1 (nb+1) c1):=⟨_,rfl⟩
 rw [← hwA] at hM1 ho1' ⊢
 clear hwA b0 fb rB hg1 ho1 hM0 rB0 hB2 hB1 w1 h0 h1 h2 h3
 rw [← signs_succ] at ho1'
 have hrA:=hM1.kept.raw h
 have p1:wA.cell? ⟨hb,1,none⟩=some vo:=hrA.row.cell (by omega)
 have p3:wA.cell? ⟨hb,3,none⟩=some (.int .i64 mk):=hrA.row.cell (by omega)
 have wu:IntKind.u64.wrap mk=mk:=by have:=hmk;have:=hmk2;simp [IntKind.wrap,IntKind.bits,IntKind.signed];omega
 have hba:hb<wA.heap.size:=hrA.row.lt
 have hBo:Below wA.heap.size wA (wA.alloc (.cells #[.int .i64 9,.int .u32 0,.int .u32 0,.int .u32 0,.int .u64 mk,.int .i32 0] 43)).drew:=below_drewN ((Below.refl _ _).alloc (Nat.le_refl _) _) 1
 have oO:=own_below hrA.oo hBo
 have hMo:=hM1.below hBo
 go_region_held3 (fun w'=>w'.cell? ⟨hb,1,none⟩=some vo∧w'.cell? ⟨hb,3,none⟩=some (.int .i64 mk)) (go_keep) (((refine step_append_keep _ rfl (.tmp 41) (.tmp 48) 32 rfl 43 io _ 6 40 Tryz.underlying32 oi oz0 oz1 oz2 rfl (by decide) vo no (opms mk no) rfl oO ⟨wA.heap.size,0,none⟩ 1 1 [.int .i64 9,.int .u32 0,.int .u32 0,.int .u32 0,.int .u64 mk,.int .i32 0] rfl rfl ?hn (by simp [Value.oneCell']) (by omega) (by unfold maxLen;omega) (by omega) ?_);(case hn=>exact World.news_of_block (heap_alloc_new wA _));(intro v2 w2 ho2 hg2;obtain ⟨a2,c2,rfl,-⟩:=own_viewN ho2;have hM2:=hMo.grewO h hg2;have rH2:=hg2.row oO (hrA.row.below hBo hba) (by decide);have rB2:=hg2.row oO hMo.row (by decide);have ho1'':=own_set (hg2.apart oO (own_below ho1' hBo) (by decide)) rB2 (by decide) 1 (.slice a2 (no+1) c2);have ho2':=own_set ho2 rB2 (by decide) 1 (.slice a2 (no+1) c2);have b1:=rB2.cell (show 1<4 by omega);have fb1:=rB2.free 1;have hS2:w2.cell? ⟨hb,1,none⟩=some vo∧w2.cell? ⟨hb,3,none⟩=some (.int .i64 mk):=⟨rH2.cell (by omega),rH2.cell (by omega)⟩;have q1:=setCell_two (k:=1) (show w.heap.size≠hb by omega) hS2.1 (.slice a2 (no+1) c2);have q3:=setCell_two (k:=1) (show w.heap.size≠hb by omega) hS2.2 (.slice a2 (no+1) c2);have hS3:=And.intro q1 q3)))
 obtain ⟨wB,hwB⟩:∃ x,x=w2.setCell ⟨w.heap.size,1,none⟩ (.slice a2 (no+1) c2):=⟨_,rfl⟩
 rw [← hwB] at hM2 ho1'' ho2' ⊢
 clear hwB b1 fb1 rB2 rH2 hg2 ho2 hMo oO hBo hS2 q1 q3 hS3
 rw [← opms_succ] at ho2'
 have hrB:=hM2.kept.raw h
 have r2:wB.cell? ⟨hb,2,none⟩=some vl:=hrB.row.cell (by omega)
 have hBl:Below wB.heap.size wB (wB.alloc (.cells #[.slice (some ⟨w.heap.size+1,0,none⟩) 3 3] 59)):=(Below.refl _ _).alloc (Nat.le_refl _) _
 have oL:=own_below hrB.ol hBl
 have hMl:=hM2.below hBl
 go_wp2_with (first
  | (at_builtin;refine wpList_append_keep _ rfl (.tmp 56) (.tmp 58) 66 rfl 59 il (.slice none 0 0) 1 24 Tryz.underlying66 li lz0 lz1 lz2 rfl (by decide) vl nl ls rfl oL ⟨wB.heap.size,0,none⟩ 1 1 [.slice (some ⟨w.heap.size+1,0,none⟩) 3 3] rfl rfl ?hn (by simp [Value.oneCell']) (by omega) (by unfold maxLen;omega) (by omega) ?_;(case hn=>exact World.news_of_block (heap_alloc_new wB _));intro v3 w3 ho3 hg3;obtain ⟨a3,c3,rfl,-⟩:=own_viewN ho3;have hM3:=hMl.grewL h hg3;have rB3:=hg3.row oL hMl.row (by decide);have h1'':=own_set (hg3.apart oL (own_below ho1'' hBl) (by decide)) rB3 (by decide) 2 (.slice a3 (nl+1) c3);have h2'':=own_set (hg3.apart oL (own_below ho2' hBl) (by decide)) rB3 (by decide) 2 (.slice a3 (nl+1) c3);have h3'':=own_set ho3 rB3 (by decide) 2 (.slice a3 (nl+1) c3);have b2:=rB3.cell (show 2<4 by omega);have fb2:=rB3.free 2))
 go_ret
 exact ⟨rfl,_,_,_,⟨hM3.row,h1'',h2'',h3''⟩,hM3⟩
end Go.Proofs.YtgccjefbedpmpaaGreatDoor

import Derived.Test.YtgccjefbedpmpaaGreatDoorXScript
import Derived.Great.BuildSlice
namespace Go.Proofs.YtgccjefbedpmpaaGreatDoor
open Go.RowKit
set_option maxRecDepth 100000
set_option maxHeartbeats 8000000
theorem range74 {w:World} {g:Nat} {vP vH:Value} (h:RowIs w g 90 74 (wcell RV vP vH)):w.rangeAt g 0 (rowOf 72 fun j=>.int .u32 (RV j)).toList:=by
 intro j v hj
 have hl:j<72:=by
  have:=(List.getElem?_eq_some_iff.1 hj).1
  simpa [rowOf_size] using this
 have hr:=(RowIs.new w 90 72 fun j=>.int .u32 (RV j)).cell hl
 rw [cell_of_row _ _ _ _ _ _ (heap_alloc_new w _),← Array.getElem?_toList] at hr
 rw [Nat.zero_add,h.cell (by omega)]
 rw [← hj,hr]
 simp only [wcell,if_pos hl]
theorem alloc_range (w:World) (cs:List Value) (t:TypeId):(w.alloc (.cells cs.toArray t)).rangeAt w.heap.size 0 cs:=fun j v hj=>by
 rw [Nat.zero_add,cell_of_row _ _ _ _ _ _ (heap_alloc_new w _),List.getElem?_toArray];exact hj
theorem infoOp:(Tryz.prog.info? 85).map (·.size)=some 23:=by kernel_rfl
theorem comp_row (g:Nat→Value):Array.foldl (fun cs (x:Value×Nat)=>cs.setIfInBounds x.snd x.fst) Tryz.zeroCells90 (rowOf 72 g).zipIdx 0 72=rowOf 74 fun j=>if j<72 then g j else .slice none 0 0:=by
 kernel_rfl
theorem range23 {w:World} {g o:Nat} {h:Nat→Value} (hc:∀ j,j<23→w.cell? ⟨g,o+j,none⟩=some (h j)):w.rangeAt g o [h 0,h 1,h 2,h 3,h 4,h 5,h 6,h 7,h 8,h 9,h 10,h 11,h 12,h 13,h 14,h 15,h 16,h 17,h 18,h 19,h 20,h 21,h 22]:=fun j v hj=>by
 have hl:j<23:=(List.getElem?_eq_some_iff.1 hj).1
 rw [hc j hl,← hj]
 have e:[h 0,h 1,h 2,h 3,h 4,h 5,h 6,h 7,h 8,h 9,h 10,h 11,h 12,h 13,h 14,h 15,h 16,h 17,h 18,h 19,h 20,h 21,h 22]=(List.range 23).map h:=rfl
 rw [e]
 simp [hl]
theorem world_row (w:World):RowIs (w.alloc (.cells (Array.foldl (fun cs (x:Value×Nat)=>cs.setIfInBounds x.snd x.fst) Tryz.zeroCells90 (rowOf 72 fun j=>.int .u32 (RV j)).zipIdx 0 72) 90)) w.heap.size 90 74 (wcell RV (.slice none 0 0) (.slice none 0 0)):=by
 rw [comp_row]
 refine (RowIs.new w _ 74 _).congr fun j hj=>?_
 unfold wcell
 split
 ·rfl
 ·split<;>rfl
structure ES (w w':World) (r:Nat):Prop where
 below:Below w.heap.size w w'
 roots:RowIs w' r 80 72 fun j=>.int .u32 (RV j)
 ca:w'.rangeAt (r+1) 0 [.int .i64 1,.int .u32 1,.int .u32 1,.int .u32 1,.int .u64 0,.int .i32 97]
 cc:w'.rangeAt (r+1+1+1) 0 [.int .i64 1,.int .u32 2,.int .u32 1,.int .u32 3,.int .u64 1048577,.int .i32 99]
 oA:w'.rangeAt (r+1+1+1+1) 0 [.int .i64 1,.int .u32 1,.int .u32 1,.int .u32 1,.int .u64 0,.int .i32 97]
 oB:w'.rangeAt (r+1+1+1+1) 6 [.int .i64 1,.int .u32 1,.int .u32 2,.int .u32 2,.int .u64 1048577,.int .i32 98]
 cf:w'.rangeAt (r+1+1+1+1+1) 0 [.int .i64 5,.int .u32 1,.int .u64 0,.int .u64 0,.int .u8 0,.int .u8 0,.int .u8 0,.slice (some ⟨r+1+1+1+1,0,none⟩) 2 2]
 lt:r+1+1+1+1+1<w'.heap.size
theorem ES.kept {w W w2:World} {r:Nat} (h:ES w W r) (hb:Below W.heap.size W w2):ES w w2 r:=by
 have hl:=h.lt
 exact ⟨h.below.trans (hb.mono h.below.size),h.roots.below hb h.roots.lt,range_below h.ca hb (by omega),range_below h.cc hb (by omega),range_below h.oA hb (by omega),range_below h.oB hb (by omega),range_below h.cf hb (by omega),Nat.lt_of_lt_of_le hl hb.size⟩
theorem alloc_rangeAt (w:World) (cs:List Value) (t:TypeId) (g o:Nat) (hg:g=w.heap.size) (xs:List Value) (hx:∀ j v,xs[j]?=some v→cs[o+j]?=some v):(w.alloc (.cells cs.toArray t)).rangeAt g o xs:=fun j v hj=>by
 subst hg
 rw [cell_of_row _ _ _ _ _ _ (heap_alloc_new w _),List.getElem?_toArray];exact hx j v hj
theorem drop_get (cs xs:List Value) (o:Nat) (h:(cs.drop o).take xs.length=xs):∀ j v,xs[j]?=some v→cs[o+j]?=some v:=fun j v hj=>by
 have hl:=(List.getElem?_eq_some_iff.1 hj).1
 rw [← h,List.getElem?_take_of_lt hl,List.getElem?_drop] at hj
 exact hj
theorem below1 (W:World) (o:Obj):Below W.heap.size W (W.alloc o):=(Below.refl _ _).alloc (Nat.le_refl _) o
theorem ES.start {w w1:World} (hb:Below w.heap.size w w1):ES w ((((((World.setRow (w1.alloc (.cells Tryz.zeroCells80 80)) w1.heap.size (rowOf 72 fun j=>.int .u32 (RV j))).alloc (.cells #[.int .i64 1,.int .u32 1,.int .u32 1,.int .u32 1,.int .u64 0,.int .i32 97] 43)).alloc (.cells #[.int .i64 1,.int .u32 1,.int .u32 2,.int .u32 2,.int .u64 1048577,.int .i32 98] 43)).alloc (.cells #[.int .i64 1,.int .u32 2,.int .u32 1,.int .u32 3,.int .u64 1048577,.int .i32 99] 43)).alloc (.cells #[.int .i64 1,.int .u32 1,.int .u32 1,.int .u32 1,.int .u64 0,.int .i32 97,.int .i64 1,.int .u32 1,.int .u32 2,.int .u32 2,.int .u64 1048577,.int .i32 98] 43)).alloc (.cells #[.int .i64 5,.int .u32 1,.int .u64 0,.int .u64 0,.int .u8 0,.int .u8 0,.int .u8 0,.slice (some ⟨w1.heap.size+1+1+1+1,0,none⟩) 2 2] 58)) w1.heap.size:=by
 have hr0:RowIs (World.setRow (w1.alloc (.cells Tryz.zeroCells80 80)) w1.heap.size (rowOf 72 fun j=>.int .u32 (RV j))) w1.heap.size 80 72 fun j=>.int .u32 (RV j):=by
  have h:RowIs (w1.alloc (.cells Tryz.zeroCells80 80)) w1.heap.size 80 72 fun _=>.int .u32 0:=by
   rw [show Tryz.zeroCells80=rowOf 72 fun _=>.int .u32 0 from by kernel_rfl]
   exact RowIs.new _ _ _ _
  exact h.setRow _
 have hB0:Below w.heap.size w (World.setRow (w1.alloc (.cells Tryz.zeroCells80 80)) w1.heap.size (rowOf 72 fun j=>.int .u32 (RV j))):=below_setRow' (hb.trans ((below1 _ _).mono hb.size)) hb.size _
 have hs0:(World.setRow (w1.alloc (.cells Tryz.zeroCells80 80)) w1.heap.size (rowOf 72 fun j=>.int .u32 (RV j))).heap.size=w1.heap.size+1:=by simp
 generalize hr:w1.heap.size=r at *
 generalize World.setRow (w1.alloc (.cells Tryz.zeroCells80 80)) r (rowOf 72 fun j=>.int .u32 (RV j))=U at *
 have s1:(U.alloc (.cells #[.int .i64 1,.int .u32 1,.int .u32 1,.int .u32 1,.int .u64 0,.int .i32 97] 43)).heap.size=r+1+1:=by simp [hs0]
 have r1:=alloc_rangeAt U [.int .i64 1,.int .u32 1,.int .u32 1,.int .u32 1,.int .u64 0,.int .i32 97] 43 (r+1) 0 hs0.symm [.int .i64 1,.int .u32 1,.int .u32 1,.int .u32 1,.int .u64 0,.int .i32 97] (drop_get _ _ 0 rfl)
 have b1:=below1 U (.cells #[.int .i64 1,.int .u32 1,.int .u32 1,.int .u32 1,.int .u64 0,.int .i32 97] 43)
 generalize U.alloc (.cells #[.int .i64 1,.int .u32 1,.int .u32 1,.int .u32 1,.int .u64 0,.int .i32 97] 43)=U1 at *
 have s2:(U1.alloc (.cells #[.int .i64 1,.int .u32 1,.int .u32 2,.int .u32 2,.int .u64 1048577,.int .i32 98] 43)).heap.size=r+1+1+1:=by simp [s1]
 have b2:=below1 U1 (.cells #[.int .i64 1,.int .u32 1,.int .u32 2,.int .u32 2,.int .u64 1048577,.int .i32 98] 43)
 generalize U1.alloc (.cells #[.int .i64 1,.int .u32 1,.int .u32 2,.int .u32 2,.int .u64 1048577,.int .i32 98] 43)=U2 at *
 have s3:(U2.alloc (.cells #[.int .i64 1,.int .u32 2,.int .u32 1,.int .u32 3,.int .u64 1048577,.int .i32 99] 43)).heap.size=r+1+1+1+1:=by simp [s2]
 have r3:=alloc_rangeAt U2 [.int .i64 1,.int .u32 2,.int .u32 1,.int .u32 3,.int .u64 1048577,.int .i32 99] 43 (r+1+1+1) 0 s2.symm [.int .i64 1,.int .u32 2,.int .u32 1,.int .u32 3,.int .u64 1048577,.int .i32 99] (drop_get _ _ 0 rfl)
 have b3:=below1 U2 (.cells #[.int .i64 1,.int .u32 2,.int .u32 1,.int .u32 3,.int .u64 1048577,.int .i32 99] 43)
 generalize U2.alloc (.cells #[.int .i64 1,.int .u32 2,.int .u32 1,.int .u32 3,.int .u64 1048577,.int .i32 99] 43)=U3 at *
 have s4:(U3.alloc (.cells #[.int .i64 1,.int .u32 1,.int .u32 1,.int .u32 1,.int .u64 0,.int .i32 97,.int .i64 1,.int .u32 1,.int .u32 2,.int .u32 2,.int .u64 1048577,.int .i32 98] 43)).heap.size=r+1+1+1+1+1:=by simp [s3]
 have r4:=alloc_rangeAt U3 [.int .i64 1,.int .u32 1,.int .u32 1,.int .u32 1,.int .u64 0,.int .i32 97,.int .i64 1,.int .u32 1,.int .u32 2,.int .u32 2,.int .u64 1048577,.int .i32 98] 43 (r+1+1+1+1) 0 s3.symm [.int .i64 1,.int .u32 1,.int .u32 1,.int .u32 1,.int .u64 0,.int .i32 97] (drop_get _ _ 0 rfl)
 have r5:=alloc_rangeAt U3 [.int .i64 1,.int .u32 1,.int .u32 1,.int .u32 1,.int .u64 0,.int .i32 97,.int .i64 1,.int .u32 1,.int .u32 2,.int .u32 2,.int .u64 1048577,.int .i32 98] 43 (r+1+1+1+1) 6 s3.symm [.int .i64 1,.int .u32 1,.int .u32 2,.int .u32 2,.int .u64 1048577,.int .i32 98] (drop_get _ _ 6 rfl)
 have b4:=below1 U3 (.cells #[.int .i64 1,.int .u32 1,.int .u32 1,.int .u32 1,.int .u64 0,.int .i32 97,.int .i64 1,.int .u32 1,.int .u32 2,.int .u32 2,.int .u64 1048577,.int .i32 98] 43)
 generalize U3.alloc (.cells #[.int .i64 1,.int .u32 1,.int .u32 1,.int .u32 1,.int .u64 0,.int .i32 97,.int .i64 1,.int .u32 1,.int .u32 2,.int .u32 2,.int .u64 1048577,.int .i32 98] 43)=U4 at *
 have r6:=alloc_rangeAt U4 [.int .i64 5,.int .u32 1,.int .u64 0,.int .u64 0,.int .u8 0,.int .u8 0,.int .u8 0,.slice (some ⟨r+1+1+1+1,0,none⟩) 2 2] 58 (r+1+1+1+1+1) 0 s4.symm [.int .i64 5,.int .u32 1,.int .u64 0,.int .u64 0,.int .u8 0,.int .u8 0,.int .u8 0,.slice (some ⟨r+1+1+1+1,0,none⟩) 2 2] (drop_get _ _ 0 rfl)
 have b5:=below1 U4 (.cells #[.int .i64 5,.int .u32 1,.int .u64 0,.int .u64 0,.int .u8 0,.int .u8 0,.int .u8 0,.slice (some ⟨r+1+1+1+1,0,none⟩) 2 2] 58)
 have s5:(U4.alloc (.cells #[.int .i64 5,.int .u32 1,.int .u64 0,.int .u64 0,.int .u8 0,.int .u8 0,.int .u8 0,.slice (some ⟨r+1+1+1+1,0,none⟩) 2 2] 58)).heap.size=r+1+1+1+1+1+1:=by simp [s4]
 generalize U4.alloc (.cells #[.int .i64 5,.int .u32 1,.int .u64 0,.int .u64 0,.int .u8 0,.int .u8 0,.int .u8 0,.slice (some ⟨r+1+1+1+1,0,none⟩) 2 2] 58)=U5 at *
 have k4:Below U4.heap.size U4 U5:=b5
 have k3:Below U3.heap.size U3 U5:=b4.trans (k4.mono b4.size)
 have k2:Below U2.heap.size U2 U5:=b3.trans (k3.mono b3.size)
 have k1:Below U1.heap.size U1 U5:=b2.trans (k2.mono b2.size)
 have k0:Below U.heap.size U U5:=b1.trans (k1.mono b1.size)
 exact ⟨hB0.trans (k0.mono hB0.size),hr0.below k0 (by omega),range_below r1 k1 (by omega),range_below r3 k3 (by omega),range_below r4 k4 (by omega),range_below r5 k4 (by omega),r6,by omega⟩
theorem cells8 {w:World} {g:Nat} {v0 v1 v2 v3 v4 v5 v6 v7:Value} (h:w.rangeAt g 0 [v0,v1,v2,v3,v4,v5,v6,v7]):w.cell? ⟨g,0,none⟩=some v0∧w.cell? ⟨g,1,none⟩=some v1∧w.cell? ⟨g,2,none⟩=some v2∧w.cell? ⟨g,3,none⟩=some v3∧w.cell? ⟨g,4,none⟩=some v4∧w.cell? ⟨g,5,none⟩=some v5∧w.cell? ⟨g,6,none⟩=some v6∧w.cell? ⟨g,7,none⟩=some v7:=
 ⟨h 0 v0 rfl,h 1 v1 rfl,h 2 v2 rfl,h 3 v3 rfl,h 4 v4 rfl,h 5 v5 rfl,h 6 v6 rfl,h 7 v7 rfl⟩
theorem ES.drew {w W:World} {r:Nat} (h:ES w W r):ES w W.drew r:=⟨h.below.drew,h.roots,h.ca,h.cc,h.oA,h.oB,h.cf,h.lt⟩
def exC (sA sX sB sC:ByteArray) (r:Nat):Array Value:=#[.int .i64 1,.int .i64 0,.int .i64 0,.string ⟨#[97,98,99]⟩,.int .i64 0,.int .u32 0,.int .u64 0,.int .u64 0,.int .u8 0,.int .u8 0,.int .u8 0,.slice none 0 0,.int .i64 1,.int .u32 1,.int .u32 1,.int .u32 1,.int .u64 0,.int .i32 97,.int .u32 1,.int .i64 0,.int .i32 0,.int .u64 0,.int .u64 0,
 .int .i64 2,.int .i64 0,.int .i64 0,.string ⟨#[]⟩,.int .i64 5,.int .u32 1,.int .u64 0,.int .u64 0,.int .u8 0,.int .u8 0,.int .u8 0,.slice (some ⟨r,0,none⟩) 2 2,.int .i64 0,.int .u32 0,.int .u32 0,.int .u32 0,.int .u64 0,.int .i32 0,.int .u32 0,.int .i64 0,.int .i32 0,.int .u64 0,.int .u64 0,
 .int .i64 2,.int .i64 0,.int .i64 0,.string ⟨#[]⟩,.int .i64 0,.int .u32 0,.int .u64 0,.int .u64 0,.int .u8 0,.int .u8 0,.int .u8 0,.slice none 0 0,.int .i64 0,.int .u32 0,.int .u32 0,.int .u32 0,.int .u64 0,.int .i32 0,.int .u32 0,.int .i64 0,.int .i32 0,.int .u64 0,.int .u64 0,
 .int .i64 3,.int .i64 0,.int .i64 0,.string sA,.int .i64 0,.int .u32 0,.int .u64 0,.int .u64 0,.int .u8 0,.int .u8 0,.int .u8 0,.slice none 0 0,.int .i64 0,.int .u32 0,.int .u32 0,.int .u32 0,.int .u64 0,.int .i32 0,.int .u32 0,.int .i64 0,.int .i32 0,.int .u64 0,.int .u64 0,
 .int .i64 3,.int .i64 0,.int .i64 0,.string sX,.int .i64 0,.int .u32 0,.int .u64 0,.int .u64 0,.int .u8 0,.int .u8 0,.int .u8 0,.slice none 0 0,.int .i64 0,.int .u32 0,.int .u32 0,.int .u32 0,.int .u64 0,.int .i32 0,.int .u32 0,.int .i64 0,.int .i32 0,.int .u64 0,.int .u64 0,
 .int .i64 4,.int .i64 0,.int .i64 0,.string ⟨#[]⟩,.int .i64 0,.int .u32 0,.int .u64 0,.int .u64 0,.int .u8 0,.int .u8 0,.int .u8 0,.slice none 0 0,.int .i64 0,.int .u32 0,.int .u32 0,.int .u32 0,.int .u64 0,.int .i32 0,.int .u32 1,.int .i64 0,.int .i32 0,.int .u64 0,.int .u64 0,
 .int .i64 4,.int .i64 0,.int .i64 0,.string ⟨#[]⟩,.int .i64 0,.int .u32 0,.int .u64 0,.int .u64 0,.int .u8 0,.int .u8 0,.int .u8 0,.slice none 0 0,.int .i64 0,.int .u32 0,.int .u32 0,.int .u32 0,.int .u64 0,.int .i32 0,.int .u32 2,.int .i64 0,.int .i32 0,.int .u64 0,.int .u64 0,
 .int .i64 5,.int .i64 0,.int .i64 0,.string ⟨#[]⟩,.int .i64 0,.int .u32 0,.int .u64 0,.int .u64 0,.int .u8 0,.int .u8 0,.int .u8 0,.slice none 0 0,.int .i64 0,.int .u32 0,.int .u32 0,.int .u32 0,.int .u64 0,.int .i32 0,.int .u32 0,.int .i64 0,.int .i32 97,.int .u64 0,.int .u64 0,
 .int .i64 5,.int .i64 0,.int .i64 0,.string ⟨#[]⟩,.int .i64 0,.int .u32 0,.int .u64 0,.int .u64 0,.int .u8 0,.int .u8 0,.int .u8 0,.slice none 0 0,.int .i64 0,.int .u32 0,.int .u32 0,.int .u32 0,.int .u64 0,.int .i32 0,.int .u32 0,.int .i64 1,.int .i32 98,.int .u64 0,.int .u64 0,
 .int .i64 5,.int .i64 0,.int .i64 0,.string ⟨#[]⟩,.int .i64 0,.int .u32 0,.int .u64 0,.int .u64 0,.int .u8 0,.int .u8 0,.int .u8 0,.slice none 0 0,.int .i64 0,.int .u32 0,.int .u32 0,.int .u32 0,.int .u64 0,.int .i32 0,.int .u32 0,.int .i64 1,.int .i32 100,.int .u64 0,.int .u64 0,
 .int .i64 7,.int .i64 0,.int .i64 0,.string ⟨#[]⟩,.int .i64 0,.int .u32 0,.int .u64 0,.int .u64 0,.int .u8 0,.int .u8 0,.int .u8 0,.slice none 0 0,.int .i64 1,.int .u32 2,.int .u32 1,.int .u32 3,.int .u64 1048577,.int .i32 99,.int .u32 0,.int .i64 0,.int .i32 0,.int .u64 0,.int .u64 0,
 .int .i64 8,.int .i64 0,.int .i64 0,.string ⟨#[]⟩,.int .i64 0,.int .u32 0,.int .u64 0,.int .u64 0,.int .u8 0,.int .u8 0,.int .u8 0,.slice none 0 0,.int .i64 0,.int .u32 0,.int .u32 0,.int .u32 0,.int .u64 0,.int .i32 0,.int .u32 0,.int .i64 0,.int .i32 0,.int .u64 0,.int .u64 0,
 .int .i64 6,.int .i64 0,.int .i64 0,.string ⟨#[]⟩,.int .i64 0,.int .u32 0,.int .u64 0,.int .u64 0,.int .u8 0,.int .u8 0,.int .u8 0,.slice none 0 0,.int .i64 0,.int .u32 0,.int .u32 0,.int .u32 0,.int .u64 0,.int .i32 0,.int .u32 0,.int .i64 1,.int .i32 0,.int .u64 0,.int .u64 0,
 .int .i64 8,.int .i64 0,.int .i64 0,.string ⟨#[]⟩,.int .i64 0,.int .u32 0,.int .u64 0,.int .u64 0,.int .u8 0,.int .u8 0,.int .u8 0,.slice none 0 0,.int .i64 0,.int .u32 0,.int .u32 0,.int .u32 0,.int .u64 0,.int .i32 0,.int .u32 0,.int .i64 0,.int .i32 0,.int .u64 0,.int .u64 0,
 .int .i64 9,.int .i64 0,.int .i64 0,.string ⟨#[]⟩,.int .i64 0,.int .u32 0,.int .u64 0,.int .u64 0,.int .u8 0,.int .u8 0,.int .u8 0,.slice none 0 0,.int .i64 0,.int .u32 0,.int .u32 0,.int .u32 0,.int .u64 0,.int .i32 0,.int .u32 0,.int .i64 0,.int .i32 0,.int .u64 0,.int .u64 0,
 .int .i64 10,.int .i64 0,.int .i64 0,.string ⟨#[]⟩,.int .i64 0,.int .u32 0,.int .u64 0,.int .u64 0,.int .u8 0,.int .u8 0,.int .u8 0,.slice none 0 0,.int .i64 0,.int .u32 0,.int .u32 0,.int .u32 0,.int .u64 0,.int .i32 0,.int .u32 0,.int .i64 0,.int .i32 0,.int .u64 0,.int .u64 1099511627776,
 .int .i64 13,.int .i64 0,.int .i64 0,.string sB,.int .i64 0,.int .u32 0,.int .u64 0,.int .u64 0,.int .u8 0,.int .u8 0,.int .u8 0,.slice none 0 0,.int .i64 0,.int .u32 0,.int .u32 0,.int .u32 0,.int .u64 0,.int .i32 0,.int .u32 0,.int .i64 0,.int .i32 0,.int .u64 0,.int .u64 0,
 .int .i64 13,.int .i64 1,.int .i64 0,.string sA,.int .i64 0,.int .u32 0,.int .u64 0,.int .u64 0,.int .u8 0,.int .u8 0,.int .u8 0,.slice none 0 0,.int .i64 0,.int .u32 0,.int .u32 0,.int .u32 0,.int .u64 0,.int .i32 0,.int .u32 0,.int .i64 0,.int .i32 0,.int .u64 0,.int .u64 0,
 .int .i64 8,.int .i64 1,.int .i64 0,.string ⟨#[]⟩,.int .i64 0,.int .u32 0,.int .u64 0,.int .u64 0,.int .u8 0,.int .u8 0,.int .u8 0,.slice none 0 0,.int .i64 0,.int .u32 0,.int .u32 0,.int .u32 0,.int .u64 0,.int .i32 0,.int .u32 0,.int .i64 0,.int .i32 0,.int .u64 0,.int .u64 0,
 .int .i64 11,.int .i64 0,.int .i64 0,.string ⟨#[]⟩,.int .i64 0,.int .u32 0,.int .u64 0,.int .u64 0,.int .u8 0,.int .u8 0,.int .u8 0,.slice none 0 0,.int .i64 0,.int .u32 0,.int .u32 0,.int .u32 0,.int .u64 0,.int .i32 0,.int .u32 4,.int .i64 0,.int .i32 0,.int .u64 0,.int .u64 0,
 .int .i64 12,.int .i64 0,.int .i64 0,.string ⟨#[]⟩,.int .i64 0,.int .u32 0,.int .u64 0,.int .u64 0,.int .u8 0,.int .u8 0,.int .u8 0,.slice none 0 0,.int .i64 0,.int .u32 0,.int .u32 0,.int .u32 0,.int .u64 0,.int .i32 0,.int .u32 0,.int .i64 0,.int .i32 0,.int .u64 0,.int .u64 0,
 .int .i64 13,.int .i64 0,.int .i64 0,.string sC,.int .i64 0,.int .u32 0,.int .u64 0,.int .u64 0,.int .u8 0,.int .u8 0,.int .u8 0,.slice none 0 0,.int .i64 0,.int .u32 0,.int .u32 0,.int .u32 0,.int .u64 0,.int .i32 0,.int .u32 0,.int .i64 0,.int .i32 0,.int .u64 0,.int .u64 0,
 .int .i64 14,.int .i64 0,.int .i64 0,.string ⟨#[]⟩,.int .i64 0,.int .u32 0,.int .u64 0,.int .u64 0,.int .u8 0,.int .u8 0,.int .u8 0,.slice none 0 0,.int .i64 0,.int .u32 0,.int .u32 0,.int .u32 0,.int .u64 0,.int .i32 0,.int .u32 0,.int .i64 0,.int .i32 0,.int .u64 0,.int .u64 0,
 .int .i64 15,.int .i64 0,.int .i64 1,.string ⟨#[]⟩,.int .i64 0,.int .u32 0,.int .u64 0,.int .u64 0,.int .u8 0,.int .u8 0,.int .u8 0,.slice none 0 0,.int .i64 0,.int .u32 0,.int .u32 0,.int .u32 0,.int .u64 0,.int .i32 0,.int .u32 0,.int .i64 0,.int .i32 0,.int .u64 0,.int .u64 1099511627776]
theorem infoOpZ:(Tryz.prog.info? 85).map (fun i=>(i.zero,i.size,i.bytes))=some (some (.agg #[.int .i64 0,.int .i64 0,.int .i64 0,.string ⟨#[]⟩,.int .i64 0,.int .u32 0,.int .u64 0,.int .u64 0,.int .u8 0,.int .u8 0,.int .u8 0,.slice none 0 0,.int .i64 0,.int .u32 0,.int .u32 0,.int .u32 0,.int .u64 0,.int .i32 0,.int .u32 0,.int .i64 0,.int .i32 0,.int .u64 0,.int .u64 0]),23,184):=by kernel_rfl
theorem exC_ok (sA sX sB sC:ByteArray) (r:Nat) (hA:sA.size≤1000) (hX:sX.size≤1000) (hB:sB.size≤1000) (hC:sC.size≤1000):∀ i,i<24→OpIs fun j=>((exC sA sX sB sC r)[i*23+j]?).getD .nilFunc:=fun i hi=>by
 have w32:∀ x:Int,0≤x∧x<5→W32 x:=fun x hx=>⟨hx.1,by omega⟩
 match i,hi with
 | 0,_=>exact ⟨⟨_,rfl⟩,⟨_,rfl,by decide⟩,⟨_,rfl,w32 _ (by decide)⟩,⟨_,rfl,w32 _ (by decide)⟩⟩
 | 1,_=>exact ⟨⟨_,rfl⟩,⟨_,rfl,by decide⟩,⟨_,rfl,w32 _ (by decide)⟩,⟨_,rfl,w32 _ (by decide)⟩⟩
 | 2,_=>exact ⟨⟨_,rfl⟩,⟨_,rfl,by decide⟩,⟨_,rfl,w32 _ (by decide)⟩,⟨_,rfl,w32 _ (by decide)⟩⟩
 | 3,_=>exact ⟨⟨_,rfl⟩,⟨_,rfl,by omega⟩,⟨_,rfl,w32 _ (by decide)⟩,⟨_,rfl,w32 _ (by decide)⟩⟩
 | 4,_=>exact ⟨⟨_,rfl⟩,⟨_,rfl,by omega⟩,⟨_,rfl,w32 _ (by decide)⟩,⟨_,rfl,w32 _ (by decide)⟩⟩
 | 5,_=>exact ⟨⟨_,rfl⟩,⟨_,rfl,by decide⟩,⟨_,rfl,w32 _ (by decide)⟩,⟨_,rfl,w32 _ (by decide)⟩⟩
 | 6,_=>exact ⟨⟨_,rfl⟩,⟨_,rfl,by decide⟩,⟨_,rfl,w32 _ (by decide)⟩,⟨_,rfl,w32 _ (by decide)⟩⟩
 | 7,_=>exact ⟨⟨_,rfl⟩,⟨_,rfl,by decide⟩,⟨_,rfl,w32 _ (by decide)⟩,⟨_,rfl,w32 _ (by decide)⟩⟩
 | 8,_=>exact ⟨⟨_,rfl⟩,⟨_,rfl,by decide⟩,⟨_,rfl,w32 _ (by decide)⟩,⟨_,rfl,w32 _ (by decide)⟩⟩
 | 9,_=>exact ⟨⟨_,rfl⟩,⟨_,rfl,by decide⟩,⟨_,rfl,w32 _ (by decide)⟩,⟨_,rfl,w32 _ (by decide)⟩⟩
 | 10,_=>exact ⟨⟨_,rfl⟩,⟨_,rfl,by decide⟩,⟨_,rfl,w32 _ (by decide)⟩,⟨_,rfl,w32 _ (by decide)⟩⟩
 | 11,_=>exact ⟨⟨_,rfl⟩,⟨_,rfl,by decide⟩,⟨_,rfl,w32 _ (by decide)⟩,⟨_,rfl,w32 _ (by decide)⟩⟩
 | 12,_=>exact ⟨⟨_,rfl⟩,⟨_,rfl,by decide⟩,⟨_,rfl,w32 _ (by decide)⟩,⟨_,rfl,w32 _ (by decide)⟩⟩
 | 13,_=>exact ⟨⟨_,rfl⟩,⟨_,rfl,by decide⟩,⟨_,rfl,w32 _ (by decide)⟩,⟨_,rfl,w32 _ (by decide)⟩⟩
 | 14,_=>exact ⟨⟨_,rfl⟩,⟨_,rfl,by decide⟩,⟨_,rfl,w32 _ (by decide)⟩,⟨_,rfl,w32 _ (by decide)⟩⟩
 | 15,_=>exact ⟨⟨_,rfl⟩,⟨_,rfl,by decide⟩,⟨_,rfl,w32 _ (by decide)⟩,⟨_,rfl,w32 _ (by decide)⟩⟩
 | 16,_=>exact ⟨⟨_,rfl⟩,⟨_,rfl,by omega⟩,⟨_,rfl,w32 _ (by decide)⟩,⟨_,rfl,w32 _ (by decide)⟩⟩
 | 17,_=>exact ⟨⟨_,rfl⟩,⟨_,rfl,by omega⟩,⟨_,rfl,w32 _ (by decide)⟩,⟨_,rfl,w32 _ (by decide)⟩⟩
 | 18,_=>exact ⟨⟨_,rfl⟩,⟨_,rfl,by decide⟩,⟨_,rfl,w32 _ (by decide)⟩,⟨_,rfl,w32 _ (by decide)⟩⟩
 | 19,_=>exact ⟨⟨_,rfl⟩,⟨_,rfl,by decide⟩,⟨_,rfl,w32 _ (by decide)⟩,⟨_,rfl,w32 _ (by decide)⟩⟩
 | 20,_=>exact ⟨⟨_,rfl⟩,⟨_,rfl,by decide⟩,⟨_,rfl,w32 _ (by decide)⟩,⟨_,rfl,w32 _ (by decide)⟩⟩
 | 21,_=>exact ⟨⟨_,rfl⟩,⟨_,rfl,by omega⟩,⟨_,rfl,w32 _ (by decide)⟩,⟨_,rfl,w32 _ (by decide)⟩⟩
 | 22,_=>exact ⟨⟨_,rfl⟩,⟨_,rfl,by decide⟩,⟨_,rfl,w32 _ (by decide)⟩,⟨_,rfl,w32 _ (by decide)⟩⟩
 | 23,_=>exact ⟨⟨_,rfl⟩,⟨_,rfl,by decide⟩,⟨_,rfl,w32 _ (by decide)⟩,⟨_,rfl,w32 _ (by decide)⟩⟩
 | n+24,h=>exact absurd h (by omega)
theorem exam_gen (v1 v2:Int) (w:World) (hU:∀ (W:World) (r:Nat) (sA sX sB sC:ByteArray),Below w.heap.size w W→r<W.heap.size→W.rangeAt r 0 [.int .i64 1,.int .u32 1,.int .u32 1,.int .u32 1,.int .u64 0,.int .i32 97]→W.rangeAt r 6 [.int .i64 1,.int .u32 1,.int .u32 2,.int .u32 2,.int .u64 1048577,.int .i32 98]→sA.size≤1000→sX.size≤1000→sB.size≤1000→sC.size≤1000 →
  Calls Tryz.prog 16 #[.slice (some ⟨W.heap.size,0,none⟩) 24 24,.int .i64 v1,.int .i64 v2] (W.alloc (.cells (exC sA sX sB sC r) 85)) fun e w'=>e=.returned (.int .i64 (-1))∧Below (W.alloc (.cells (exC sA sX sB sC r) 85)).heap.size (W.alloc (.cells (exC sA sX sB sC r) 85)) w') :
  Calls Tryz.prog 15 #[.int .i64 v1,.int .i64 v2] w fun e w'=>e=.returned (.bool true)∧Below w.heap.size w w':=by
 have HUU:Hid (∀ (W:World) (r:Nat) (sA sX sB sC:ByteArray),Below w.heap.size w W→r<W.heap.size→W.rangeAt r 0 [.int .i64 1,.int .u32 1,.int .u32 1,.int .u32 1,.int .u64 0,.int .i32 97]→W.rangeAt r 6 [.int .i64 1,.int .u32 1,.int .u32 2,.int .u32 2,.int .u64 1048577,.int .i32 98]→sA.size≤1000→sX.size≤1000→sB.size≤1000→sC.size≤1000 →
  Calls Tryz.prog 16 #[.slice (some ⟨W.heap.size,0,none⟩) 24 24,.int .i64 v1,.int .i64 v2] (W.alloc (.cells (exC sA sX sB sC r) 85)) fun e w'=>e=.returned (.int .i64 (-1))∧Below (W.alloc (.cells (exC sA sX sB sC r) 85)).heap.size (W.alloc (.cells (exC sA sX sB sC r) 85)) w'):=hU
 clear hU
 go_enter Tryz.func15,Tryz.ntmps15
 go_wp2_with (first
  | (go_at_call 41;refine (roots_any _).mono ?_;rintro e w1 ⟨rfl,hb1⟩;have HE0:Hid (ES w _ w1.heap.size):=ES.start hb1)
  | (refine wpList_store_row rfl 80 (.tmp 5) (.tmp 17) rfl w1.heap.size _ rfl rfl _ _ (heap_alloc_new w1 _) (by rw [rowOf_size];exact info30) (by rw [rowOf_size];kernel_rfl) (ints_one _ _ _) ?_)
  | (refine wpList_load_mid rfl 80 (.tmp 5) rfl w1.heap.size 0 rfl _ _ (range72 HE4.out.roots) Tryz.underlying80 rfl (by rw [Array.length_toList,rowOf_size];exact info30) ?_;simp only [Array.toArray_toList])
  | (refine wpList_load_mid rfl 80 (.tmp 5) rfl w1.heap.size 0 rfl _ _ (range72 HE3.out.roots) Tryz.underlying80 rfl (by rw [Array.length_toList,rowOf_size];exact info30) ?_;simp only [Array.toArray_toList])
  | (refine wpList_load_mid rfl 80 (.tmp 5) rfl w1.heap.size 0 rfl _ _ (range72 HE2.out.roots) Tryz.underlying80 rfl (by rw [Array.length_toList,rowOf_size];exact info30) ?_;simp only [Array.toArray_toList])
  | (refine wpList_load_mid rfl 80 (.tmp 5) rfl w1.heap.size 0 rfl _ _ (range72 HE0.out.roots) Tryz.underlying80 rfl (by rw [Array.length_toList,rowOf_size];exact info30) ?_;simp only [Array.toArray_toList])
  | (go_at_call 42;have hx:=HE3.out;clear hx;refine (packU _).mono ?_;rintro e w4 ⟨⟨sC,rfl,hs5,hs6⟩,hb4⟩;have HE4:Hid (ES w w4 w1.heap.size):=HE3.out.kept hb4;have hs7:(1:Int)≤(sA.size:Int):=by omega)
  | (go_at_call 42;have hx:=HE2.out;clear hx;refine (packT _).mono ?_;rintro e w3 ⟨⟨sB,rfl,hs3,hs4⟩,hb3⟩;have HE3:Hid (ES w w3 w1.heap.size):=HE2.out.kept hb3)
  | (go_at_call 42;refine (pack1 _ _ HE0.out.oA HE0.out.oB (Nat.lt_of_succ_lt HE0.out.lt)).mono ?_;rintro e w2 ⟨⟨sA,rfl,hs1,hs2⟩,hb2⟩;have HE2:Hid (ES w w2 w1.heap.size):=HE0.out.kept hb2))
 obtain ⟨ie,hie,hz0,hz1,_⟩:=info_parts infoOpZ
 have HI:Hid (Tryz.prog.info? 85=some ie∧ie.zero=some (.agg #[.int .i64 0,.int .i64 0,.int .i64 0,.string ⟨#[]⟩,.int .i64 0,.int .u32 0,.int .u64 0,.int .u64 0,.int .u8 0,.int .u8 0,.int .u8 0,.slice none 0 0,.int .i64 0,.int .u32 0,.int .u32 0,.int .u32 0,.int .u64 0,.int .i32 0,.int .u32 0,.int .i64 0,.int .i32 0,.int .u64 0,.int .u64 0])∧ie.size=23):=⟨hie,hz0,hz1⟩
 clear hie hz0 hz1
 refine wp_region_held_drew (S:=fun w'=>ES w w' w1.heap.size) (by kernel_rfl) HE4.out.drew (fun hHeld=>?_)
 refine tkf 0 43 (fun _ h=>cells0 h.ca) ?_
 refine tk0 1 44 ?_
 refine tkf 2 45 (fun _ h=>cells8 h.cf) ?_
 refine tk0 3 46 ?_
 refine tk0 4 47 ?_
 refine tk0 5 48 ?_
 refine tk0 6 49 ?_
 refine tk0 7 50 ?_
 refine tk0 8 51 ?_
 refine tk0 9 52 ?_
 refine tk0 10 53 ?_
 refine tk0 11 54 ?_
 refine tk0 12 55 ?_
 refine tk0 13 56 ?_
 refine tk0 14 57 ?_
 refine tkf 15 58 (fun _ h=>cells0 h.cc) ?_
 refine tk0 16 59 ?_
 refine tk0 17 60 ?_
 refine tk0 18 61 ?_
 refine tk0 19 62 ?_
 refine tk0 20 63 ?_
 refine tk0 21 64 ?_
 refine tk0 22 65 ?_
 refine tk0 23 66 ?_
 refine tk0 24 67 ?_
 refine tk0 25 68 ?_
 refine tk0 26 69 ?_
 refine tk0 27 70 ?_
 refine tk0 28 71 ?_
 refine tk0 29 72 ?_
 refine tk0 30 73 ?_
 refine tk0 31 74 ?_
 refine tk0 32 75 ?_
 refine rd 33 (some 76) rfl (fun K hK=>?_)
 rw [if_pos (by rfl)]
 refine wp_buildSlice 22 85 24 _ rfl (exC sA (sA.extract 1 sA.size) sB sC (w1.heap.size+1+1+1+1)) ie _ Tryz.underlying22 HI.out.1 HI.out.2.1 (by rw [HI.out.2.2];decide) (by rw [HI.out.2.2];decide) (by rw [HI.out.2.2];kernel_rfl) ?_
 simp only [Act.put,ls1,ls2,ls3]
 have HU:Hid (Calls _ _ _ _ _):=HUU.out w4.drew (w1.heap.size+1+1+1+1) sA (sA.extract 1 sA.size) sB sC hHeld.below (Nat.lt_of_succ_lt hHeld.lt) hHeld.oA hHeld.oB hs2 (by rw [ByteArray.size_extract];omega) hs4 hs6
 refine hK.out _ _ (hHeld.kept (below1 _ _)) (fun hHeld=>?_)
 clear hK K
 refine rdg 34 (some 16) ?_
 refine wdn ?_
 go_wp2_with (first
  | (go_at_call 16;refine HU.out.mono ?_;rintro e w6 ⟨rfl,hb6⟩))
 go_ret
 exact ⟨rfl,hHeld.below.trans (hb6.mono hHeld.below.size)⟩
end Go.Proofs.YtgccjefbedpmpaaGreatDoor

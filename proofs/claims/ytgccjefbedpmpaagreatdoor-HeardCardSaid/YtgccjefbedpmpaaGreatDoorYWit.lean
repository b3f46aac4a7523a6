import Derived.Test.YtgccjefbedpmpaaGreatDoorProg
import Derived.Below
import Derived.Laws.AppendOwn
import Derived.Laws.OwnMore
import Derived.Test.YtgccjefbedpmpaaGreatDoorCards
import Derived.Test.YtgccjefbedpmpaaGreatDoorTie
import Derived.WalkKit
import Derived.ProofKit
import Derived.OpenShut
import Derived.Deep.DeepHandedRow
import Derived.Deep.DeepWitnessRowRef
import Derived.Lib.LaidTab
import Derived.LaidHandle
import Derived.LaidSub
theorem Or.via {a b c d:Prop} (f:a→c) (g:b→d) (h:a∨b):c∨d:=h.elim (fun x=>.inl (f x)) fun x=>.inr (g x)
theorem List.Pairwise.via {α:Type _} {R S:α→α→Prop} (f:∀ {a b},R a b→S a b) {l:List α} (h:l.Pairwise R):l.Pairwise S:=List.pairwise_iff_getElem.2 fun i j a b c=>f (List.pairwise_iff_getElem.1 h i j a b c)
namespace Go.Proofs.YtgccjefbedpmpaaGreatDoor
section
abbrev I6 (n:Int):Value:=.int .i64 n
abbrev U3 (n:Int):Value:=.int .u32 n
abbrev U6 (n:Int):Value:=.int .u64 n
abbrev U8 (n:Int):Value:=.int .u8 n
abbrev I3 (n:Int):Value:=.int .i32 n
abbrev Ad (b o:Nat):Addr:=⟨b,o,none⟩
abbrev pt (b o:Nat):Value:=.pointer (some ⟨b,o,none⟩)
abbrev Bel (w w':World):Prop:=Go.RowKit.Below w.heap.size w w'
abbrev Cs:=Calls Tryz.prog
abbrev oZ:Array Value:=#[I6 0,U3 0,U3 0,U3 0,U6 0,I3 0]
abbrev qb:=@Nat.le_refl
abbrev qc:=@List.setIfInBounds_toArray
abbrev qd:=@And.intro
abbrev qe:=@List.length_append
abbrev qf:=@Go.World.ownsRow.lt
abbrev qg:=@List.set_cons_succ
abbrev qh:=@List.set_cons_zero
abbrev qi:=@Nat.le_trans
abbrev qj:=@Go.RowKit.Below.refl
abbrev qk:=@List.getElem?_eq_getElem
abbrev ql:=@Nat.lt_of_lt_of_le
abbrev qm:=@List.length_take
abbrev qn:=@List.getElem_mem
abbrev qo:=@List.mem_filter
abbrev qp:=@List.length_cons
abbrev qq:=@Option.some.inj
abbrev qr:=@List.append_assoc
abbrev qs:=@Nat.zero_le
abbrev qt:=@List.length_drop
abbrev qu:=@List.mem_cons
abbrev qv:=@List.length_nil
abbrev qw:=@List.mem_iff_getElem
abbrev qx:=@Bool.and_eq_true
abbrev qy:=@List.mem_cons_self
abbrev qz:=@Go.World.cell?_of_block
abbrev q9:=@Nat.zero_add
abbrev za:=@Go.World.ownsRow.cellAt
abbrev zb:=@List.mem_cons_of_mem
abbrev zc:=@Nat.le_succ
abbrev zd:=@List.mem_append
abbrev ze:=@List.length_map
abbrev zf:=@Array.getElem?_eq_some_iff
abbrev zg:=@Go.World.ownsRow.alloc
abbrev zh:=@List.mem_append_left
abbrev zj:=@List.getElem?_eq_none
abbrev zk:=@List.take_succ_eq_append_getElem
abbrev zl:=@List.pairwise_iff_getElem
abbrev zn:=@List.getElem?_eq_some_iff
abbrev zo:=@List.mem_singleton
abbrev zp:=@List.length_singleton
abbrev zq:=@Go.World.ownsRow.frozenAt
abbrev zr:=@Nat.lt_or_ge
abbrev zt:=@List.filter_append
abbrev zu:=@Nat.add_assoc
abbrev zv:=@List.getD_eq_getElem?_getD
abbrev zw:=@List.nil_append
abbrev zx:=@List.findIdx?_eq_some_iff_getElem
abbrev zy:=@List.length_eq_zero_iff
abbrev zz:=@List.length_filter_le
abbrev z8:=@List.filter_sublist
abbrev ja:=@List.take_of_length_le
abbrev jb:=@List.mem_of_mem_take
abbrev jc:=@List.getElem?_take_of_lt
abbrev jd:=@List.append_nil
abbrev je:=@List.filter_eq_self
abbrev jf:=@Bool.or_eq_false_iff
abbrev jg:=@Int.lt_or_le
abbrev jh:=@List.take_append_drop
abbrev ji:=@List.contains_iff_mem
abbrev jl:=@Array.getElem?_append_left
abbrev jm:=@List.eq_nil_of_length_eq_zero
abbrev jn:=@List.cons_append
abbrev jo:=@List.mem_append_right
abbrev jp:=@List.Pairwise.sublist
abbrev jq:=@List.getElem_take
abbrev jr:=@Nat.min_eq_left
abbrev js:=@List.pairwise_cons
abbrev jt:=@List.mem_map
abbrev ju:=@List.getElem?_drop
abbrev jw:=@List.take_length
abbrev jx:=@Option.some.injEq
abbrev jy:=@List.mem_of_mem_eraseIdx
abbrev jz:=@List.getElem_append_left
abbrev j8:=@List.take_left'
abbrev j9:=@List.getElem?_append_right
abbrev ya:=@List.size_toArray
abbrev yb:=@List.map_append
abbrev yc:=@List.length_replicate
abbrev yd:=@List.mem_flatMap
abbrev yf:=@Array.size_range
abbrev yg:=@List.take_take
abbrev yh:=@Array.replicate_zero
abbrev yi:=@Array.replicate_succ
abbrev yj:=@List.length_range
abbrev yk:=@List.getElem_drop
abbrev yl:=@Nat.not_lt_zero
abbrev ym:=@List.length_set
abbrev yn:=@List.append_toArray
abbrev yo:=@Array.length_toList
abbrev yp:=@Option.map_eq_some_iff
abbrev yq:=@List.drop_of_length_le
abbrev yr:=@List.not_mem_nil
abbrev yt:=@List.drop_drop
abbrev yu:=@List.getElem_append_right
abbrev yv:=@List.getElem?_append_left
abbrev yw:=@List.drop_eq_getElem_cons
abbrev yx:=@Array.getElem?_eq_getElem
abbrev yy:=@List.eraseIdx_eq_take_drop_succ
abbrev yz:=@Nat.le_of_lt
abbrev y8:=@Nat.add_zero
abbrev y9:=@Bool.or_eq_true
abbrev kb:=@List.push_toArray
abbrev ke:=@List.flatMap_cons
abbrev kf:=@List.take_append_of_le_length
abbrev kg:=@List.filter_cons_of_pos
abbrev kh:=@Int.toNat_of_nonneg
abbrev ki:=@Nat.min_def
abbrev kj:=@List.cons.inj
abbrev kl:=@Nat.lt_trichotomy
end
section
open Go.ChangeShapes Go.WideShapes Go.ChangeAt Go.RowKit
set_option maxRecDepth 100000
set_option maxHeartbeats 8000000
theorem own:ownKnob Tryz.prog.godebug=none:=by kernel_rfl
def tabCells:DataW Unit→Array Value
 | .agg ps=>(ps.map fun | .lit (.int k z)=>Value.int k z|_=>.nilFunc).toArray
 | _=>#[]
def errText:DataW Unit→ByteArray
 | .iface _ (.ptr (.agg [.lit (.string bs)]))=>⟨bs.toArray⟩
 | _=>⟨#[]⟩
def errBlock (d:DataW Unit):Obj:=.cells #[.string (errText d)] 454
def laidWorld (P:Program) (os:Os):World:=
 let N:=(World.settled P os).heap.size
 let w0:=World.holding P os ⟨#[errBlock Rows.laid_skein_fault_Short,errBlock Rows.laid_skein_fault_More,errBlock Rows.laid_skein_fault_Long,errBlock Rows.laid_skein_fault_Check,errBlock Rows.laid_skein_fault_Bounds,errBlock Rows.laid_skein_fault_Own,errBlock Rows.laid_skein_fault_Order,errBlock Rows.laid_skein_fault_Extra,errBlock Rows.laid_skein_fault_Count,errBlock Rows.laid_skein_fault_Other],#[],[]⟩
 let put (h:Array Obj) (g:Nat) (cs:Array Value):Array Obj:=h.modify g fun
  | .cells _ t frozen=>.cells cs t frozen
  | o=>o
 let h0:=put w0.heap 1 #[.iface 330 (.agg #[.pointer (some ⟨P.globals.size,123,none⟩)])]
 let h1:=put h0 13 (tabCells Rows.laid_math_bits_deBruijn32tab)
 let h2:=put h1 14 (tabCells Rows.laid_math_bits_deBruijn64tab)
 let h3:=put h2 12 (tabCells Rows.laid_internal_strconv_uint64pow10)
 let h4:=put h3 11 (tabCells Rows.laid_skein_sha_roundWords)
 let h5:=put h4 2 #[.iface 435 (.pointer (some ⟨N+0,0,none⟩))]
 let h6:=put h5 8 #[.iface 435 (.pointer (some ⟨N+1,0,none⟩))]
 let h7:=put h6 10 #[.iface 435 (.pointer (some ⟨N+2,0,none⟩))]
 let h8:=put h7 3 #[.iface 435 (.pointer (some ⟨N+3,0,none⟩))]
 let h9:=put h8 4 #[.iface 435 (.pointer (some ⟨N+4,0,none⟩))]
 let h10:=put h9 5 #[.iface 435 (.pointer (some ⟨N+5,0,none⟩))]
 let h11:=put h10 9 #[.iface 435 (.pointer (some ⟨N+6,0,none⟩))]
 let h12:=put h11 6 #[.iface 435 (.pointer (some ⟨N+7,0,none⟩))]
 let h13:=put h12 7 #[.iface 435 (.pointer (some ⟨N+8,0,none⟩))]
 let h14:=put h13 0 #[.iface 435 (.pointer (some ⟨N+9,0,none⟩))]
 { w0 with heap:=h14 }
theorem laid_met (os:Os) (args:Array Value):laidMetH Tryz.prog Rows.sumsRow.laid ((laidWorld Tryz.prog os).forCall (fun _ _=>0) ⟨#[],args,[]⟩).memory:=
 laidMetH_of_parts (laidMet_of_run' 10 (by kernel_rfl) (by kernel_rfl)) (by kernel_rfl)
end

import Derived.Test.YtgccjefbedpmpaaGreatDoorYWit
import Derived.Test.YtgccjefbedpmpaaGreatDoorYWPack
import Derived.LaidLaws
import Derived.Carry
namespace Go.Proofs.YtgccjefbedpmpaaGreatDoor
open Go.ChangeShapes Go.WideShapes Go.ChangeAt Go.RowKit
set_option maxRecDepth 100000
set_option maxHeartbeats 8000000
def nmAt (i:Nat):String:=((Rows.sumsRow.laid.map fun x=>x.1)[i]?).getD (String.ofList [])
theorem var_heap {W:World} {nm:String} {g:Nat} {cs:Array Value} (hg:Tryz.prog.globalNamed nm=some g) (h:W.var? Tryz.prog nm=some cs):∃ t f,W.heap[g]?=some (.cells cs t f):=by
  unfold World.var? at h
  rw [hg] at h
  replace h:(match W.heap[g]? with | some (.cells cs _ _)=>some cs | _=>none)=some cs:=h
  split at h
  · rename_i c t f hh
    cases h
    exact ⟨t,f,hh⟩
  · cases h
theorem errRows:((List.range Tryz.prog.types.size).all fun u=>Tryz.prog.typeName? 3 u != some ("*" ++ "errors.errorString")||u==435)=true:=by kernel_rfl
theorem errNamed:((List.range Tryz.prog.types.size).all fun e=>Tryz.prog.typeName? 2 e != some "errors.errorString"||(match (Tryz.prog.info? e).map (·.desc) with | some (TypeDesc.named _ _)=>true | _=>false))=true:=by kernel_rfl
theorem errCells:Tryz.prog.cellsOf 454=1:=by kernel_rfl
theorem strCells:Tryz.prog.cellsOf 9=1:=by kernel_rfl
theorem sent_of {W:World} {nm:String} {g:Nat} {text:List UInt8} (hg:Tryz.prog.globalNamed nm=some g) (hty:(Tryz.prog.globals[g]?).map (·.type)=some 123)
    (h:laidMet Tryz.prog [(nm,.iface ("*" ++ "errors.errorString") (.ptr (.agg [.lit (.string text)])))] W):∃ a,W.cell? ⟨g,0,none⟩=some (.iface 435 (.pointer (some a))):=by
  obtain ⟨ps,⟨g',t',cs,fuel,p,q,hg',ht',hvar,hd,_,hps⟩,_,hrow⟩:=h
  obtain rfl:=Option.some.inj (hg.symm.trans hg')
  obtain rfl:=Option.some.inj (hty.symm.trans ht')
  obtain ⟨t,f,hh⟩:=var_heap hg hvar
  have key:=errorString_of_trod Tryz.underlying123 (typeName_ptr_named errRows errNamed (by decide)) Tryz.underlying435 Tryz.underlying454 rfl rfl Tryz.underlying9 errCells strCells hd fun u v e=>by
    have e1:cs=#[.iface u v]:=Array.ext' e
    subst e1
    refine (hrow g 0 ?_).2 u v ((cell_of_row _ _ _ _ _ _ hh).trans rfl)
    rw [hps]
    exact List.mem_append_left _ (List.mem_append_left _ (List.mem_map.2 ⟨0,List.mem_range.2 (by simp),rfl⟩))
  obtain ⟨a,s,e,_⟩:=key
  have e1:cs=#[.iface 435 (.pointer (some a))]:=Array.ext' e
  subst e1
  exact ⟨a,(cell_of_row _ _ _ _ _ _ hh).trans rfl⟩
theorem handleRows:((List.range Tryz.prog.types.size).all fun t=>!Tryz.prog.rowNamed t [101,114,114,111,114]||t==123)=true:=by kernel_rfl
theorem handleGlobal:Tryz.prog.globalNamed (nmAt 4)=some 1:=by kernel_rfl
theorem handle_of {W:World} (h:laidMetH Tryz.prog Rows.sumsRow.laid W):Handle W:=by
  have h2:=(laidMetH_iff.1 h).2
  have hx:(nmAt 4,Rows.laid_errors_errorType)∈Rows.sumsRow.laid.filter fun x=>x.2.handleName?.isSome:=List.mem_filter.2 ⟨List.mem_of_getElem? (i:=4) rfl,rfl⟩
  obtain ⟨name,u,ty,hn,hu,hty,hr,hv⟩:=h2 _ hx
  obtain rfl:name=[101,114,114,111,114]:=(Option.some.inj (hn.symm.trans rfl))
  have hu2:some 330=some u:=by rw [← hu];kernel_rfl
  obtain rfl:=Option.some.inj hu2
  have ht:ty=123:=by
    have:=List.all_eq_true.1 handleRows ty (List.mem_range.2 hty)
    rw [hr] at this
    simpa using this
  subst ht
  obtain ⟨t,f,hh⟩:=var_heap handleGlobal hv
  exact (cell_of_row _ _ _ _ _ _ hh).trans (by kernel_rfl)
theorem tens_of {W:World} (h:laidMetH Tryz.prog Rows.sumsRow.laid W):Tens W:=by
  have h2:laidMet Tryz.prog [(nmAt 2,Lib.tabData .u64 Lib.pow10Tab)] W:=laidMetH.filter (fun x=>x.1==nmAt 2) h
  have h3:=Lib.tabIs_of_head (rest:=[]) (show Tryz.prog.globalNamed (nmAt 2)=some 12 by kernel_rfl) (show (Tryz.prog.globals[12]?).map (·.type)=some 432 by kernel_rfl) Tryz.underlying432 Tryz.underlying41 (by kernel_rfl) (by kernel_rfl) h2
  exact var_heap (show Tryz.prog.globalNamed (nmAt 2)=some 12 by kernel_rfl) h3
theorem table_of {W:World} (h:laidMetH Tryz.prog Rows.sumsRow.laid W):∀ j,j < 64→W.cell? ⟨11,j,none⟩=some (.int .u32 (KK j)):=by
  have h2:laidMet Tryz.prog [(nmAt 3,Lib.tabData .u32 ((List.range 64).map KK))] W:=laidMetH.filter (fun x=>x.1==nmAt 3) h
  have h3:=Lib.tabIs_of_head (rest:=[]) (show Tryz.prog.globalNamed (nmAt 3)=some 11 by kernel_rfl) (show (Tryz.prog.globals[11]?).map (·.type)=some 78 by kernel_rfl) Tryz.underlying78 Tryz.underlying39 (by kernel_rfl) (by kernel_rfl) h2
  intro j hj
  have h4:=h3.cell (show Tryz.prog.globalNamed (nmAt 3)=some 11 by kernel_rfl) j (by simpa using hj)
  rw [h4]
  simp [List.getD,hj]
theorem sent5 {W:World} (h:laidMetH Tryz.prog Rows.sumsRow.laid W):∃ a,W.cell? ⟨2,0,none⟩=some (.iface 435 (.pointer (some a))):=
  sent_of (nm:=nmAt 5) (by kernel_rfl) (by kernel_rfl) (laidMetH.filter (fun x=>x.1==nmAt 5) h)
theorem sent6 {W:World} (h:laidMetH Tryz.prog Rows.sumsRow.laid W):∃ a,W.cell? ⟨8,0,none⟩=some (.iface 435 (.pointer (some a))):=
  sent_of (nm:=nmAt 6) (by kernel_rfl) (by kernel_rfl) (laidMetH.filter (fun x=>x.1==nmAt 6) h)
theorem sent7 {W:World} (h:laidMetH Tryz.prog Rows.sumsRow.laid W):∃ a,W.cell? ⟨10,0,none⟩=some (.iface 435 (.pointer (some a))):=
  sent_of (nm:=nmAt 7) (by kernel_rfl) (by kernel_rfl) (laidMetH.filter (fun x=>x.1==nmAt 7) h)
theorem sent8 {W:World} (h:laidMetH Tryz.prog Rows.sumsRow.laid W):∃ a,W.cell? ⟨3,0,none⟩=some (.iface 435 (.pointer (some a))):=
  sent_of (nm:=nmAt 8) (by kernel_rfl) (by kernel_rfl) (laidMetH.filter (fun x=>x.1==nmAt 8) h)
theorem sent9 {W:World} (h:laidMetH Tryz.prog Rows.sumsRow.laid W):∃ a,W.cell? ⟨4,0,none⟩=some (.iface 435 (.pointer (some a))):=
  sent_of (nm:=nmAt 9) (by kernel_rfl) (by kernel_rfl) (laidMetH.filter (fun x=>x.1==nmAt 9) h)
theorem sent10 {W:World} (h:laidMetH Tryz.prog Rows.sumsRow.laid W):∃ a,W.cell? ⟨5,0,none⟩=some (.iface 435 (.pointer (some a))):=
  sent_of (nm:=nmAt 10) (by kernel_rfl) (by kernel_rfl) (laidMetH.filter (fun x=>x.1==nmAt 10) h)
theorem sent11 {W:World} (h:laidMetH Tryz.prog Rows.sumsRow.laid W):∃ a,W.cell? ⟨9,0,none⟩=some (.iface 435 (.pointer (some a))):=
  sent_of (nm:=nmAt 11) (by kernel_rfl) (by kernel_rfl) (laidMetH.filter (fun x=>x.1==nmAt 11) h)
theorem sent12 {W:World} (h:laidMetH Tryz.prog Rows.sumsRow.laid W):∃ a,W.cell? ⟨6,0,none⟩=some (.iface 435 (.pointer (some a))):=
  sent_of (nm:=nmAt 12) (by kernel_rfl) (by kernel_rfl) (laidMetH.filter (fun x=>x.1==nmAt 12) h)
theorem sent13 {W:World} (h:laidMetH Tryz.prog Rows.sumsRow.laid W):∃ a,W.cell? ⟨7,0,none⟩=some (.iface 435 (.pointer (some a))):=
  sent_of (nm:=nmAt 13) (by kernel_rfl) (by kernel_rfl) (laidMetH.filter (fun x=>x.1==nmAt 13) h)
theorem sent14 {W:World} (h:laidMetH Tryz.prog Rows.sumsRow.laid W):∃ a,W.cell? ⟨0,0,none⟩=some (.iface 435 (.pointer (some a))):=
  sent_of (nm:=nmAt 14) (by kernel_rfl) (by kernel_rfl) (laidMetH.filter (fun x=>x.1==nmAt 14) h)
theorem env_of {W:World} (h:laidMetH Tryz.prog Rows.sumsRow.laid W):Env W:=
  ⟨⟨sent9 h,sent10 h,sent11 h,sent12 h,sent13 h,sent5 h,sent6 h,sent7 h,sent8 h,sent14 h⟩,tens_of h,handle_of h,block_lt_of_cell (table_of h 0 (by decide)),table_of h⟩
theorem lastRow:(((begin Tryz.prog (fun _ _=>0) default).world.heap[15-1]?).bind Obj.row?).isSome=true:=by kernel_rfl
theorem globals_of {W:World} (h:W.ShapedOpen Tryz.prog):15≤W.heap.size:=by
  obtain ⟨⟨zero,t⟩,hz⟩:=Option.isSome_iff_exists.1 lastRow
  obtain ⟨cs,hc,_⟩:=h.1 (15-1) zero t (by rw [show Tryz.prog.globals.size=15 from by kernel_rfl];decide) hz
  have:=(Array.getElem?_eq_some_iff.1 hc).1
  omega
end Go.Proofs.YtgccjefbedpmpaaGreatDoor

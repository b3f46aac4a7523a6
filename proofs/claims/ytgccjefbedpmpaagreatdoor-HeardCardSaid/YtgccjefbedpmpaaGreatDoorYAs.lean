import Derived.Test.YtgccjefbedpmpaaGreatDoorYMem
import Derived.LaidEql
import Derived.Stop.Asserts
import Derived.RowKitTokens
namespace Go.Proofs.YtgccjefbedpmpaaGreatDoor
open Go.RowKit Go.Extern.Stop Go.Stop Go.Extern
set_option maxRecDepth 100000
set_option maxHeartbeats 8000000
section
variable (w : World) (a : Addr) (v : Value)
theorem asV1:(ReflectliteValue.unpack (.iface 181 (.pointer (some a)))).run Tryz.prog w=.ok (.agg #[(pt 15 181),(pt w.heap.size 0),U6 150]) (w.alloc (.cells #[.pointer (some a)] 181)):=by kernel_rfl
theorem asT1:(ReflectliteValue.methodAny (ReflectliteValue.valueError "reflectlite.Value.Type" 0) (fun t _ _ _=>ReflectliteType.toType t) #[.agg #[(pt 15 181),.pointer (some a),U6 150]]).run Tryz.prog w=.ok (.iface 330 (.agg #[(pt 15 181)])) w:=by kernel_rfl
theorem asMK:(Go.method 566 330 (.agg #[v]) "Kind").run Tryz.prog w=.ok (360,v) w:=by kernel_rfl
theorem asME:(Go.method 566 330 (.agg #[v]) "Elem").run Tryz.prog w=.ok (376,.agg #[v]) w:=by kernel_rfl
theorem asMI:(Go.method 566 330 (.agg #[v]) "Implements").run Tryz.prog w=.ok (377,.agg #[v]) w:=by kernel_rfl
theorem asMA:(Go.method 566 330 (.agg #[v]) "AssignableTo").run Tryz.prog w=.ok (374,.agg #[v]) w:=by kernel_rfl
theorem asK1:((ReflectliteType.abiMethod fun t=>(fun a:Nat=>Value.int IntKind.u8 (a:Int)) <$> Rtype.kind t) #[(pt 15 181)]).run Tryz.prog w=.ok (U8 22) w:=by kernel_rfl
theorem asK2:((ReflectliteType.abiMethod fun t=>(fun a:Nat=>Value.int IntKind.u8 (a:Int)) <$> Rtype.kind t) #[(pt 15 179)]).run Tryz.prog w=.ok (U8 22) w:=by kernel_rfl
theorem asE1:(ReflectliteType.method ReflectliteType.elem #[.agg #[(pt 15 181)]]).run Tryz.prog w=.ok (.iface 330 (.agg #[(pt 15 179)])) w:=by kernel_rfl
theorem asI2:(ReflectliteType.relation "Implements" ReflectliteType.implements_ #[.agg #[(pt 15 179)],.iface 330 (.agg #[(pt 15 123)])]).run Tryz.prog w=.ok (.bool true) w:=by kernel_rfl
theorem asT2:(ReflectliteType.typeOf #[.iface 179 v]).run Tryz.prog w=.ok (.iface 330 (.agg #[(pt 15 179)])) w:=by kernel_rfl
theorem asA2:(ReflectliteType.relation "AssignableTo" ReflectliteType.assignableTo #[.agg #[(pt 15 179)],.iface 330 (.agg #[(pt 15 179)])]).run Tryz.prog w=.ok (.bool true) w:=by kernel_rfl
theorem asV2:(ReflectliteValue.unpack (.iface 179 (.pointer (some a)))).run Tryz.prog w=.ok (.agg #[(pt 15 179),(pt w.heap.size 0),U6 150]) (w.alloc (.cells #[.pointer (some a)] 179)):=by kernel_rfl
theorem asP1:(ReflectliteValue.parts (.agg #[(pt 15 181),.pointer (some a),U6 150])).run Tryz.prog w=.ok (some (181,a,150)) w:=by kernel_rfl
theorem asP2:(ReflectliteValue.parts (.agg #[(pt 15 179),.pointer (some a),U6 406])).run Tryz.prog w=.ok (some (179,a,406)) w:=by kernel_rfl
theorem asP3:(ReflectliteValue.parts (.agg #[(pt 15 179),.pointer (some a),U6 150])).run Tryz.prog w=.ok (some (179,a,150)) w:=by kernel_rfl
theorem asEl:(Rtype.elem? 181).run Tryz.prog w=.ok (some 179) w:=by kernel_rfl
theorem asMk:(ReflectliteValue.mk 179 a ReflectliteValue.flagAddr).run Tryz.prog w=.ok (.agg #[(pt 15 179),.pointer (some a),U6 406]) w:=by kernel_rfl
theorem asDi:(Rtype.directlyAssignable 179 179).run Tryz.prog w=.ok true w:=by kernel_rfl
end
theorem rlMethod (z:Sem Value) (f:TypeId→Addr→Nat→Nat→Sem Value) (v:Value):ReflectliteValue.method z f #[v]=(do match ← ReflectliteValue.parts v with|none=>z|some (t,a,fl)=>f t a fl (fl % 32)):=rfl
theorem asNil (a p:Addr) (W:World) (ha:W.cell? a=some (.pointer (some p))) :
  (ReflectliteValue.method (ReflectliteValue.valueError "reflectlite.Value.IsNil" 0) ReflectliteValue.isNil #[.agg #[(pt 15 181),.pointer (some a),U6 150]]).run Tryz.prog W=.ok (.bool false) W:=by
 rw [rlMethod];simp only [Sem.run_bind,asP1,Result.andThen];simp [ReflectliteValue.isNil,loadVar,isAgg,underlying,Tryz.underlying181,ha,Result.andThen]
theorem asElem (a p:Addr) (W:World) (ha:W.cell? a=some (.pointer (some p))) :
  (ReflectliteValue.method (ReflectliteValue.valueError "reflectlite.Value.Elem" 0) ReflectliteValue.elem #[.agg #[(pt 15 181),.pointer (some a),U6 150]]).run Tryz.prog W=.ok (.agg #[(pt 15 179),.pointer (some p),U6 406]) W:=by
 rw [rlMethod];simp only [Sem.run_bind,asP1,Result.andThen];simp [ReflectliteValue.elem,loadVar,isAgg,underlying,Tryz.underlying181,ha,Result.andThen,asEl,asMk]
theorem asSet (ta b e:Addr) (old:Value) (W:World) (hb:W.cell? b=some (.pointer (some e))) (ht:W.cell? ta=some old) (hf:W.frozen? ta=false) :
  (ReflectliteValue.set #[.agg #[(pt 15 179),.pointer (some ta),U6 406],.agg #[(pt 15 179),.pointer (some b),U6 150]]).run Tryz.prog W=.ok (.tuple #[]) (W.setCell ta (.pointer (some e))):=by
 delta ReflectliteValue.set ReflectliteValue.set.match_3
 rw [dif_pos (show Array.size _=2 from rfl)];dsimp only [Array.getLit];simp only [Sem.run_bind,List.getElem_toArray,List.getElem_cons_zero,List.getElem_cons_succ,asP2,asP3,Result.andThen];simp [ReflectliteValue.flagAddr,loadVar,isAgg,underlying,Tryz.underlying179,hb,Result.andThen,asDi,storeVar,Value.cells,storeCells,Addr.add];rw [run_store Tryz.prog W ta _ _ (by rfl)];simp [ht,hf]
theorem asHit (e t:Addr) (old:Value) (w:World) (hg:w.cell? (Ad 1 0)=some (.iface 330 (.agg #[(pt 15 123)]))) (ht0:w.cell? t=some old) (hf0:w.frozen? t=false) :
  Cs 108 #[.iface 179 (.pointer (some e)),.iface 181 (.pointer (some t))] w fun ev w'=>ev=.returned (.bool true)∧∃ w1,Bel w w1∧w'=w1.setCell t (.pointer (some e)):=by
 have hlt:1<w.heap.size:=block_lt_of_cell hg;have htl:t.block<w.heap.size:=block_lt_of_cell ht0;have h1:=@run_callFunc_extern Tryz.prog 186 _ (fun args=>ReflectliteValue.unpack (args.getD 0 (.tuple #[]))) Tryz.func186 (by kernel_rfl) (by kernel_rfl) (by kernel_rfl) (by kernel_rfl);have h2:=@run_callFunc_extern Tryz.prog 187 _ (ReflectliteValue.methodAny (ReflectliteValue.valueError "reflectlite.Value.Type" 0) (fun t _ _ _=>ReflectliteType.toType t)) Tryz.func187 (by kernel_rfl) (by kernel_rfl) (by kernel_rfl) (by kernel_rfl);have h3:=@run_callFunc_extern Tryz.prog 188 _ (ReflectliteValue.method (ReflectliteValue.valueError "reflectlite.Value.IsNil" 0) ReflectliteValue.isNil) Tryz.func188 (by kernel_rfl) (by kernel_rfl) (by kernel_rfl) (by kernel_rfl);have h4:=@run_callFunc_extern Tryz.prog 360 _ (ReflectliteType.abiMethod fun t=>do pure (U8 (← Rtype.kind t))) Tryz.func360 (by kernel_rfl) (by kernel_rfl) (by kernel_rfl) (by kernel_rfl);have h5:=@run_callFunc_extern Tryz.prog 376 _ (ReflectliteType.method ReflectliteType.elem) Tryz.func376 (by kernel_rfl) (by kernel_rfl) (by kernel_rfl) (by kernel_rfl);have h6:=@run_callFunc_extern Tryz.prog 377 _ (ReflectliteType.relation "Implements" ReflectliteType.implements_) Tryz.func377 (by kernel_rfl) (by kernel_rfl) (by kernel_rfl) (by kernel_rfl);have h7:=@run_callFunc_extern Tryz.prog 244 _ ReflectliteType.typeOf Tryz.func244 (by kernel_rfl) (by kernel_rfl) (by kernel_rfl) (by kernel_rfl);have h8:=@run_callFunc_extern Tryz.prog 374 _ (ReflectliteType.relation "AssignableTo" ReflectliteType.assignableTo) Tryz.func374 (by kernel_rfl) (by kernel_rfl) (by kernel_rfl) (by kernel_rfl);have h9:=@run_callFunc_extern Tryz.prog 245 _ (ReflectliteValue.method (ReflectliteValue.valueError "reflectlite.Value.Elem" 0) ReflectliteValue.elem) Tryz.func245 (by kernel_rfl) (by kernel_rfl) (by kernel_rfl) (by kernel_rfl);have h10:=@run_callFunc_extern Tryz.prog 246 _ ReflectliteValue.set Tryz.func246 (by kernel_rfl) (by kernel_rfl) (by kernel_rfl) (by kernel_rfl);have f1:=asV1;have f2:=asT1;have f3:=asMK;have f4:=asME;have f5:=asMI;have f6:=asMA;have f7:=asK1;have f8:=asK2;have f9:=asE1;have f10:=asI2;have f11:=asT2;have f12:=asA2;have f13:=asV2;generalize hO:(Obj.cells #[(pt 15 181),(pt w.heap.size 0),U6 150] 258)=O;have n1:=asNil (Ad w.heap.size 0) t ((w.alloc (.cells #[.pointer (some t)] 181)).alloc O) (by rw [World.cell?_alloc_lt _ _ (Ad w.heap.size 0) (by simp)];simp)
 have g2:((w.alloc (.cells #[.pointer (some t)] 181)).alloc O).cell? (Ad 1 0)=some (.iface 330 (.agg #[(pt 15 123)])):=by
  rw [World.cell?_alloc_lt _ _ (Ad 1 0) (by simp<;>omega),World.cell?_alloc_lt _ _ (Ad 1 0) hlt];exact hg
 have el:=asElem (Ad w.heap.size 0) t (((w.alloc (.cells #[.pointer (some t)] 181)).alloc O).alloc O) (by rw [World.cell?_alloc_lt _ _ (Ad w.heap.size 0) (by simp;omega),World.cell?_alloc_lt _ _ (Ad w.heap.size 0) (by simp)];simp)
 have st:=asSet t ⟨w.heap.size+1+1+1,0,none⟩ e old ((((w.alloc (.cells #[.pointer (some t)] 181)).alloc O).alloc O).alloc (.cells #[.pointer (some e)] 179))
  (by rw [World.cell?_alloc_at _ _ _ _ (by simp)];rfl)
  (by rw [World.cell?_alloc_lt _ _ t (by simp;omega),World.cell?_alloc_lt _ _ t (by simp;omega),World.cell?_alloc_lt _ _ t (by simp;omega),World.cell?_alloc_lt _ _ t htl];exact ht0)
  (by rw [World.frozen?_alloc_old _ _ t (by simp;omega),World.frozen?_alloc_old _ _ t (by simp;omega),World.frozen?_alloc_old _ _ t (by simp;omega),World.frozen?_alloc_old _ _ t (Nat.ne_of_lt htl)];exact hf0)
 have hB:Bel w ((((w.alloc (.cells #[.pointer (some t)] 181)).alloc O).alloc O).alloc (.cells #[.pointer (some e)] 179)):=((((qj _ _).alloc (qb _) _).alloc (by simp) _).alloc (by simp;omega) _).alloc (by simp;omega) _;subst hO;go_enter Tryz.func108,Tryz.ntmps108;go_wp2;refine wp_loop_rounds 1 ?_;rw [rounds_succ];go_wp2;go_ret;exact ⟨rfl,_,hB,rfl⟩
def Err (v:Value):Prop:=∃ t x,v=.iface t x
theorem ku (p:ByteArray) (v:Value) (hv:Err v) (w:World):Cs 120 #[.string p,v] w fun e w'=>(∃ x,e=.returned x∧Err x)∧Bel w w':=by
 obtain ⟨t,x,rfl⟩:=hv;go_enter Tryz.func120,Tryz.ntmps120;go_wp2;go_ret;exact ⟨⟨_,rfl,_,_,rfl⟩,(qj _ _).alloc (qb _) _⟩
theorem refuse_nil (n:Int) (w:World):Cs 110 #[I6 n,.nilIface] w fun e w'=>e=.returned .nilIface∧w'=w:=by
 go_enter Tryz.func110,Tryz.ntmps110;go_wp2;go_ret;exact ⟨rfl,rfl⟩
def Ref (w:World) (n:Int) (v:Value):Prop:=∃ g,v=.iface 179 ((pt g 0))∧w.cell? (Ad g 0)=some (I6 n)
theorem refuse_err (n:Int) (v:Value) (hv:Err v) (w:World):Cs 110 #[I6 n,v] w fun e w'=>(∃ x,e=.returned x∧Ref w' n x)∧Bel w w':=by
 obtain ⟨t,x,rfl⟩:=hv;go_enter Tryz.func110,Tryz.ntmps110;go_wp2;go_ret;exact ⟨⟨_,rfl,_,rfl,(cell_of_row _ _ _ _ _ _ (heap_alloc_new w _)).trans rfl⟩,(qj _ _).alloc (qb _) _⟩
theorem Qu (w:World):Cs 59 #[.nilIface] w fun e w'=>e=.returned (I6 0)∧w'=w:=by
 go_enter Tryz.func59,Tryz.ntmps59;go_wp2;go_ret;exact ⟨rfl,rfl⟩
def Handle (w:World):Prop:=w.cell? (Ad 1 0)=some (.iface 330 (.agg #[(pt 15 123)]))
theorem number_ref (n:Int) (v:Value) (w:World) (hv:Ref w n v) (hg:Handle w):Cs 59 #[v] w fun e w'=>e=.returned (I6 n)∧Bel w w':=by
 obtain ⟨g,rfl,hc⟩:=hv;have hB:Bel w (w.alloc (.cells #[.pointer none] 179)):=(qj _ _).alloc (qb _) _;have hgl:=block_lt_of_cell hg;have hcl:=block_lt_of_cell hc;have hg1:=(hB.cell hgl).trans hg;have ht1:(w.alloc (.cells #[.pointer none] 179)).cell? (Ad w.heap.size 0)=some (.pointer none):=(cell_of_row _ _ _ _ _ _ (heap_alloc_new w _)).trans rfl;have hf1:(w.alloc (.cells #[.pointer none] 179)).frozen? (Ad w.heap.size 0)=false:=by simp
 go_enter Tryz.func59,Tryz.ntmps59;go_wp2_with (go_at_call 108;refine (asHit (Ad g 0) (Ad w.heap.size 0) (.pointer none) _ hg1 ht1 hf1).mono ?_;rintro e w1 ⟨rfl,w2,hb2,rfl⟩;have hr2:=(RowIs.new w 179 1 (fun _=>.pointer none)).below hb2 (by simp);have k0:(w2.setCell (Ad w.heap.size 0) ((pt g 0))).cell? (Ad w.heap.size 0)=some ((pt g 0)):=(hr2.set 0 _).cell (by omega);have k1:(w2.setCell (Ad w.heap.size 0) ((pt g 0))).cell? (Ad g 0)=some (I6 n):=(qz (heap_setCell_other _ _ _ _ (show g≠w.heap.size from Nat.ne_of_lt hcl))).trans ((hb2.cell (p:=(Ad g 0)) (by simp;omega)).trans ((hB.cell hcl).trans hc)));go_ret;exact ⟨rfl,(hB.trans (hb2.mono hB.size)).setCell (qb _) _⟩

import Derived.Test.YtgccjefbedpmpaaGreatDoorJStA
namespace Go.Proofs.YtgccjefbedpmpaaGreatDoor
open Go.RowKit
set_option maxRecDepth 100000
set_option maxHeartbeats 8000000
def DoesP (G os ws:List Opn) (b:Nat) (cl:Int) (vW:Value) (w:World) (e:Ending) (w':World):Prop:=
 (∃ o,e=.returned (.tuple #[opA o,.bool true,.bool true])∧Wrote G os ws cl o∧∃ v' t',After w w' b cl vW (putK o os) ws v' t')∨(e=.returned (.tuple #[opA o0,.bool false,.bool true])∧∃ v' t',After w w' b cl vW os ws v' t')
theorem does_wrote {w w3 w4:World} {b:Nat} {cl:Int} {vW v4:Value} {t t4:Tr} {ws os:List Opn} {who kind at' c:Int} {nb g cap:Nat} {cs:List Int} (o:Opn) (h0:One w b cl vW t ws) (hD:DoesS w w3 who kind at' c nb g cap cs∧Below w.heap.size w w3) (ha:After w3 w4 b cl vW os ws v4 t4) :
  After w (w4.alloc (.cells #[.int .i64 o.kd,.int .u32 o.cl,.int .u32 o.ck,.int .u32 o.st,.int .u64 o.rf,.int .i32 o.ch] 43)) b cl vW os ws v4 t4∧DoesS w (w4.alloc (.cells #[.int .i64 o.kd,.int .u32 o.cl,.int .u32 o.ck,.int .u32 o.st,.int .u64 o.rf,.int .i32 o.ch] 43)) who kind at' c nb g cap cs∧RowIs (w4.alloc (.cells #[.int .i64 o.kd,.int .u32 o.cl,.int .u32 o.ck,.int .u32 o.st,.int .u64 o.rf,.int .i32 o.ch] 43)) w4.heap.size 43 6 (opV o)∧v4.ownBlock≠some (w.heap.size+1)∧w.heap.size+1 < w4.heap.size:=by
 have hs:w.heap.size+1 < w3.heap.size:=hD.1.res.lt
 have h4:=ha.but.size
 refine ⟨(ha.pre hD.2).post (below1' _ _),(hD.1.but ha.but fun x e=>?_).below (below1' _ _),RowIs.last rfl rfl,ha.away h0 hs,by omega⟩
 rcases e with e | e
 ·rw [e];exact h0.lt.1
 ·exact h0.lt.2 x e
theorem without_eq {cs cs':List Int} {v:Value} {p:Nat} {w:World} (h:Runes w v cs) (hp:p < cs.length) (he:cs.eraseIdx p=cs'):Calls Tryz.prog 28 #[v,.int .i64 p] w fun e w'=>e=.returned (.string (lowS cs'))∧Below w.heap.size w w':=by
 subst he
 exact without_any cs v p w h hp
theorem results_ctt {P:Program} {fn:Func} {p q r:Tmp} {ty:TypeId} (h:fn.results=#[.cell p ty,.tmp q,.tmp r]) (tmps:Array Value) (w:World) (g:Nat) (t:TypeId) (cs:Array Value) (fr:Nat×Nat) (d:TypeDesc) (x y:Value)
  (hp:tmps.getD p undef=.pointer (some ⟨g,0,none⟩)) (hq:tmps.getD q undef=x) (hr:tmps.getD r undef=y) (hg:w.heap[g]?=some (.cells cs t fr))
  (hu:P.underlying ty=some d) (hd:(match d with | .struct _ | .array _ _=>true | _=>false)=true) (hi:(P.info? ty).map (·.size)=some cs.size) :
  (results fn tmps).run P w=.ok (.tuple #[.agg cs,x,y]) w:=by
 have hp':tmps[p]?.getD undef=.pointer (some ⟨g,0,none⟩):=by simpa using hp
 have hq':tmps[q]?.getD undef=x:=by simpa using hq
 have hr':tmps[r]?.getD undef=y:=by simpa using hr
 simp [results,h,hp',hq',hr',asAddr,run_loadVar_row w g t ty cs fr d hg hu hd hi]
theorem does_ins1 {w:World} {b:Nat} {cl:Int} {vW:Value} {t:Tr} {ws G:List Opn} (h:One w b cl vW t ws) (hR:RepOk G t.list ws cl) (hG:Hist G) (hcl:1≤cl∧cl≤1048575) (who kind at' c:Int) (hk:-9223372036854775808≤kind∧kind≤9223372036854775807) (ha:-9223372036854775808≤at'∧at'≤9223372036854775807) (hc:-9223372036854775808≤c∧c≤9223372036854775807) (hkk:pk kind 6≠3) (p:Nat) (hp:pk at' (((chL t.list).length:Int)+1)=p) (hpl:p≤(chL t.list).length) (o:Opn) (hi:insN cl t.list ws p (97+pk c 26)=(o,0,(putK o t.list,ws))) (hW:Wrote G t.list ws cl o) (hch:chL (putK o t.list)=(chL t.list).take p++(97+pk c 26)::(chL t.list).drop p):Calls Tryz.prog 46 #[.pointer (some ⟨b,0,none⟩),.agg #[.int .i64 who,.int .i64 kind,.int .i64 at',.int .i64 c]] w fun e w'=>DoesP G t.list ws b cl vW w e w':=by
 have HO:=hidE h
 have HGl:=hidE h.glob
 have HLow:=hidE (And.intro (chL_low hR hG) (chL_len hR.book.set))
 have HN:=hidE (And.intro hcl (And.intro hk (And.intro ha hc)))
 have HI:Hid (∀ W,One W b cl vW t ws→Calls Tryz.prog 45 #[.pointer (some ⟨b,0,none⟩),.int .i64 p,.int .i32 (97+pk c 26)] W fun e w'=>e=.returned (.tuple #[.agg #[.int .i64 o.kd,.int .u32 o.cl,.int .u32 o.ck,.int .u32 o.st,.int .u64 o.rf,.int .i32 o.ch],.int .i64 0])∧∃ v' t',After W w' b cl vW (putK o t.list) ws v' t'):=hidE fun W hW=>by
  have:=hW.ins hcl p (97+pk c 26)
  rw [hi] at this
  exact this
 have hs:=put_split hpl (97+pk c 26)
 rw [← hch] at hs
 have HW:=hidE (And.intro hW (chL_low hW.rep hW.hist))
 generalize hcs:chL t.list=cs at *
 have HCs:=hidE hcs
 generalize hcs2:chL (putK o t.list)=cs2 at *
 have HS:=hidE (And.intro hcs2 hs)
 have hl2:cs2.length=cs.length+1:=hs.1
 clear hcs2 hs hW hch
 have r26:=pk_range (c:=c) (n:=26) (by omega)
 have hcl2:cs.length≤120:=HLow.out.2
 have e1:IntKind.i64.wrap ((cs.length:Int)+1)=(cs.length:Int)+1:=i64r (by omega)
 have k1:¬ pk kind 6=3:=hkk
 clear h hR hG hcl hk ha hc hcs hi
 go_enter Tryz.func46,Tryz.ntmps46
 go_wp2_with (first
  | (go_at_call 26;have hq:=H5;clear hq;refine (H5.out.1.one.textL (cs:=cs2) (by rw [H5.out.1.list];exact HS.out.1) HW.out.2).mono ?_;rintro e w6 ⟨rfl,hb6⟩;obtain ⟨cap2,w7,hcv2,hru2,hb7,hlt7⟩:=conv_low w6 HW.out.2 (by omega);rw [hl2] at hcv2 hru2;have H6:=hidE (And.intro hru2 (And.intro ((H5.out.1.post hb6).post hb7) (And.intro ((H5.out.2.1.below hb6).below hb7) (And.intro ((H5.out.2.2.1.below hb6 H5.out.2.2.1.lt).below hb7 (Nat.lt_of_lt_of_le H5.out.2.2.1.lt hb6.size)) (And.intro H5.out.2.2.2 (Nat.lt_of_lt_of_le H5.out.2.2.1.lt hb6.size))))));clear hb6 hru2 hb7 hlt7)
  | (go_at_call 26;refine ((HO.out.below (((Below.refl _ _).alloc (Nat.le_refl _) _).alloc (by simp) _)).textL HCs.out HLow.out.1).mono ?_;rintro e w1 ⟨rfl,hb1⟩;obtain ⟨cap,w2,hcv,hru,hb2,hlt⟩:=conv_low w1 HLow.out.1 (Nat.le_trans HLow.out.2 (by decide));have D0:Hid (DoesS w (w2.alloc (.cells #[.int .i64 0,.int .u32 0,.int .u32 0,.int .u32 0,.int .u64 0,.int .i32 0] 43)) who kind at' c w2.heap.size w1.heap.size cap cs∧Below w.heap.size w (w2.alloc (.cells #[.int .i64 0,.int .u32 0,.int .u32 0,.int .u32 0,.int .u64 0,.int .i32 0] 43))):=hidE (does_start hb1 hru hb2 hlt);have c1:=D0.out.1.box.cell (j:=1) (by omega);have c2:=D0.out.1.box.cell (j:=2) (by omega);have c3:=D0.out.1.box.cell (j:=3) (by omega);simp only [ed4] at c1 c2 c3;clear hb1 hru hb2 hlt)
  | (go_at_call 22;have hq:=PKd;clear hq;refine (pick_any at' ((cs.length:Int)+1) HN.out.2.2.1 (by omega) _).mono ?_;rw [hp];rintro e wx ⟨rfl,hwx⟩;obtain rfl:=hwx.symm)
  | (go_at_call 22;refine (pick_any kind 6 HN.out.2.1 (by omega) _).mono ?_;rintro e wx ⟨rfl,hwx⟩;obtain rfl:=hwx.symm;have PKd:Hid True:=hidE trivial)
  | (go_at_call 88;refine (char_any c HN.out.2.2.2 _).mono ?_;rintro e wx ⟨rfl,hwx⟩;obtain rfl:=hwx.symm)
  | (go_at_call 45;refine (HI.out _ (HO.out.below D0.out.2)).mono ?_;rintro e w4 ⟨rfl,v4,t4,ha4⟩;have H5:=hidE (does_wrote o HO.out D0.out ha4);clear ha4))
 have HA:=hidE H6.out.2.1
 have HD:=hidE H6.out.2.2.1
 have HV:=hidE H6.out.2.2.2.2.1.1
 have HX:=hidE (And.intro H6.out.2.2.2.2.1.2 H6.out.2.2.2.2.2)
 have hp0:(p:Int) < (cs.length:Int)+1:=by omega
 have hp1:(0:Int)≤(p:Int):=by omega
 refine wp_region_held_drew (S:=fun W=>RowIs W w4.heap.size 43 6 (opV o)∧Runes W (.slice (some ⟨w1.heap.size,0,none⟩) cs.length cap) cs∧Runes W (.slice (some ⟨w6.heap.size,0,none⟩) (cs.length+1) cap2) cs2) (by kernel_rfl) (⟨H6.out.2.2.2.1.drew,H6.out.2.2.1.was.below (Below.refl _ _).drew,H6.out.1.below (Below.refl _ _).drew⟩) (fun hHeld=>?_)
 generalize hwD:World.drew _=wD at hHeld ⊢
 have HA:=hidE (HA.out.post (drew_below hwD))
 have HD:=hidE (HD.out.below (drew_below hwD))
 clear hwD
 refine wpAnyH_take (i:=0) (oi:={ dst:=some 91,op:=_,type:=_,pos:=_,after:=_,guard:=_ }) rfl (by kernel_rfl) (by kernel_rfl) (by kernel_rfl) (fun _ _ _ h=>h) (Or.inl ⟨by rfl,fun W hS=>by have y0:=hS.1.cell (j:=0) (by omega);have y1:=hS.1.cell (j:=1) (by omega);have y2:=hS.1.cell (j:=2) (by omega);have y3:=hS.1.cell (j:=3) (by omega);have y4:=hS.1.cell (j:=4) (by omega);have y5:=hS.1.cell (j:=5) (by omega);simp only [opV] at y0 y1 y2 y3 y4 y5;go_simp;rfl⟩) hHeld ?_
 simp only [Act.put,List.setIfInBounds_toArray,List.set_cons_zero,List.set_cons_succ]
 refine wpAnyH_take (i:=1) (oi:={ dst:=some 92,op:=_,type:=_,pos:=_,after:=_,guard:=_ }) rfl (by kernel_rfl) (by kernel_rfl) (by kernel_rfl) (fun _ _ _ h=>h) (Or.inl ⟨by rfl,fun w _=>by go_simp;rfl⟩) hHeld ?_
 simp only [Act.put,List.setIfInBounds_toArray,List.set_cons_zero,List.set_cons_succ]
 refine wpAnyH_take (i:=2) (oi:={ dst:=some 93,op:=_,type:=_,pos:=_,after:=_,guard:=_ }) rfl (by kernel_rfl) (by kernel_rfl) (by kernel_rfl) (fun _ _ _ h=>h) (Or.inl ⟨by rfl,fun w _=>by go_simp;rfl⟩) hHeld ?_
 simp only [Act.put,List.setIfInBounds_toArray,List.set_cons_zero,List.set_cons_succ]
 refine wpAnyH_take (i:=3) (oi:={ dst:=some 94,op:=_,type:=_,pos:=_,after:=_,guard:=_ }) rfl (by kernel_rfl) (by kernel_rfl) (by kernel_rfl) (fun _ _ _ h=>h) (Or.inl ⟨by rfl,fun w _=>by go_simp;rfl⟩) hHeld ?_
 simp only [Act.put,List.setIfInBounds_toArray,List.set_cons_zero,List.set_cons_succ]
 refine wpAnyH_take (i:=4) (oi:={ dst:=some 95,op:=_,type:=_,pos:=_,after:=_,guard:=_ }) rfl (by kernel_rfl) (by kernel_rfl) (by kernel_rfl) (fun _ _ _ h=>h) (Or.inl ⟨by rfl,fun w _=>by go_simp;rfl⟩) hHeld ?_
 simp only [Act.put,List.setIfInBounds_toArray,List.set_cons_zero,List.set_cons_succ]
 refine wpAnyH_take (i:=5) (oi:={ dst:=some 96,op:=_,type:=_,pos:=_,after:=_,guard:=_ }) rfl (by kernel_rfl) (by kernel_rfl) (by kernel_rfl) (fun _ _ _ h=>h) (Or.inl ⟨by rfl,fun w _=>by go_simp;rfl⟩) hHeld ?_
 simp only [Act.put,List.setIfInBounds_toArray,List.set_cons_zero,List.set_cons_succ]
 refine wpAnyH_take (i:=6) (oi:={ dst:=some 97,op:=_,type:=_,pos:=_,after:=_,guard:=_ }) rfl (by kernel_rfl) (by kernel_rfl) (by kernel_rfl) (fun _ _ _ h=>h) (Or.inl ⟨by rfl,fun w _=>by go_simp;rfl⟩) hHeld ?_
 simp only [Act.put,List.setIfInBounds_toArray,List.set_cons_zero,List.set_cons_succ]
 refine wpAnyH_take (i:=7) (oi:={ dst:=some 98,op:=_,type:=_,pos:=_,after:=_,guard:=_ }) rfl (by kernel_rfl) (by kernel_rfl) (by kernel_rfl) (fun _ _ _ h=>h) (Or.inl ⟨by rfl,fun w _=>by go_simp;rfl⟩) hHeld ?_
 simp only [Act.put,List.setIfInBounds_toArray,List.set_cons_zero,List.set_cons_succ]
 refine wpAnyH_take (i:=8) (oi:={ dst:=some 99,op:=_,type:=_,pos:=_,after:=_,guard:=_ }) rfl (by kernel_rfl) (by kernel_rfl) (by kernel_rfl) (fun _ _ _ h=>h) (Or.inl ⟨by rfl,fun w _=>by go_simp;rfl⟩) hHeld ?_
 simp only [Act.put,List.setIfInBounds_toArray,List.set_cons_zero,List.set_cons_succ]
 refine wpAnyH_take (i:=9) (oi:={ dst:=some 100,op:=_,type:=_,pos:=_,after:=_,guard:=_ }) rfl (by kernel_rfl) (by kernel_rfl) (by kernel_rfl) (fun _ _ _ h=>h) (Or.inl ⟨by rfl,fun w _=>by go_simp;rfl⟩) hHeld ?_
 simp only [Act.put,List.setIfInBounds_toArray,List.set_cons_zero,List.set_cons_succ]
 refine wpAnyH_take (i:=10) (oi:={ dst:=some 101,op:=_,type:=_,pos:=_,after:=_,guard:=_ }) rfl (by kernel_rfl) (by kernel_rfl) (by kernel_rfl) (fun _ _ _ h=>h) (Or.inl ⟨by rfl,fun w _=>by go_simp;rfl⟩) hHeld ?_
 simp only [Act.put,List.setIfInBounds_toArray,List.set_cons_zero,List.set_cons_succ]
 refine wpAnyH_take (i:=11) (oi:={ dst:=some 102,op:=_,type:=_,pos:=_,after:=_,guard:=_ }) rfl (by kernel_rfl) (by kernel_rfl) (by kernel_rfl) (fun _ _ _ h=>h) (Or.inl ⟨by rfl,fun W hS=>by have hq:=runes_at hS.2.2 HS.out.2.2.2;go_simp;rfl⟩) hHeld ?_
 simp only [Act.put,List.setIfInBounds_toArray,List.set_cons_zero,List.set_cons_succ]
 refine wpAnyH_take (i:=12) (oi:={ dst:=some 103,op:=_,type:=_,pos:=_,after:=_,guard:=_ }) rfl (by kernel_rfl) (by kernel_rfl) (by kernel_rfl) (fun _ _ _ h=>h) (Or.inl ⟨by rfl,fun w _=>by go_simp;rfl⟩) hHeld ?_
 simp only [Act.put,List.setIfInBounds_toArray,List.set_cons_zero,List.set_cons_succ]
 refine wpAnyH_take (i:=13) (oi:={ dst:=some 104,op:=_,type:=_,pos:=_,after:=_,guard:=_ }) rfl (by kernel_rfl) (by kernel_rfl) (by kernel_rfl) (fun _ _ _ h=>h) (Or.inl ⟨by rfl,fun w _=>by go_simp;rfl⟩) hHeld ?_
 simp only [Act.put,List.setIfInBounds_toArray,List.set_cons_zero,List.set_cons_succ]
 refine wpAnyH_take (i:=14) (oi:={ dst:=some 105,op:=_,type:=_,pos:=_,after:=_,guard:=_ }) rfl (by kernel_rfl) (by kernel_rfl) (by kernel_rfl) (fun _ _ _ h=>h) (Or.inl ⟨by rfl,fun w _=>by go_simp;rfl⟩) hHeld ?_
 simp only [Act.put,List.setIfInBounds_toArray,List.set_cons_zero,List.set_cons_succ]
 refine wpAnyH_take (i:=15) (oi:={ dst:=some 106,op:=_,type:=_,pos:=_,after:=_,guard:=_ }) rfl (by kernel_rfl) (by kernel_rfl) (by kernel_rfl) (fun _ _ _ h=>h) (Or.inl ⟨by rfl,fun w _=>by go_simp;rfl⟩) hHeld ?_
 simp only [Act.put,List.setIfInBounds_toArray,List.set_cons_zero,List.set_cons_succ]
 refine wpAnyH_take (i:=16) (oi:={ dst:=some 107,op:=_,type:=_,pos:=_,after:=_,guard:=_ }) rfl (by kernel_rfl) (by kernel_rfl) (by kernel_rfl) (fun _ _ _ h=>h) (Or.inl ⟨by rfl,fun w _=>by go_simp;rfl⟩) hHeld ?_
 simp only [Act.put,List.setIfInBounds_toArray,List.set_cons_zero,List.set_cons_succ]
 refine wpAnyH_take (i:=17) (oi:={ dst:=some 108,op:=_,type:=_,pos:=_,after:=_,guard:=_ }) rfl (by kernel_rfl) (by kernel_rfl) (by kernel_rfl) (fun _ _ _ h=>h) (Or.inl ⟨by rfl,fun w _=>by go_simp;rfl⟩) hHeld ?_
 simp only [Act.put,List.setIfInBounds_toArray,List.set_cons_zero,List.set_cons_succ]
 refine wpAnyH_take (i:=19) (oi:={ dst:=some 110,op:=_,type:=_,pos:=_,after:=_,guard:=_ }) rfl (by kernel_rfl) (by kernel_rfl) (by kernel_rfl) (fun _ _ _ h=>h) (Or.inl ⟨by rfl,fun w _=>by go_simp;rfl⟩) hHeld ?_
 simp only [Act.put,List.setIfInBounds_toArray,List.set_cons_zero,List.set_cons_succ]
 refine wpAnyH_take (i:=20) (oi:={ dst:=some 111,op:=_,type:=_,pos:=_,after:=_,guard:=_ }) rfl (by kernel_rfl) (by kernel_rfl) (by kernel_rfl) (fun _ _ _ h=>h) (Or.inl ⟨by rfl,fun W hS=>by have hq:=str_runes W hS.2.1;go_simp;rfl⟩) hHeld ?_
 simp only [Act.put,List.setIfInBounds_toArray,List.set_cons_zero,List.set_cons_succ]
 refine wpAnyH_ready (rs:=[18]) (by kernel_rfl) (by simp) (AllReadyH.cons (o:={ dst:=some 109,op:=_,type:=_,pos:=_,after:=_,guard:=_ }) rfl (fun K hK=>?_) AllReadyH.nil)
 go_simp
 refine (without_eq hHeld.2.2 (by omega) HS.out.2.2.1).mono ?_
 rintro e w8 ⟨rfl,hbg⟩
 have HA:=hidE (HA.out.post hbg)
 have HD:=hidE (HD.out.below hbg)
 refine hK.out _ _ (⟨hHeld.1.below hbg hHeld.1.lt,hHeld.2.1.below hbg,hHeld.2.2.below hbg⟩) (fun hHeld=>?_)
 clear hK K hbg
 refine wpAnyH_take (i:=21) (oi:={ dst:=some 112,op:=_,type:=_,pos:=_,after:=_,guard:=_ }) rfl (by kernel_rfl) (by kernel_rfl) (by kernel_rfl) (fun _ _ _ h=>h) (Or.inl ⟨by rfl,fun w _=>by go_simp;rfl⟩) hHeld ?_
 simp only [Act.put,List.setIfInBounds_toArray,List.set_cons_zero,List.set_cons_succ]
 refine wpAnyH_take (i:=22) (oi:={ dst:=some 113,op:=_,type:=_,pos:=_,after:=_,guard:=_ }) rfl (by kernel_rfl) (by kernel_rfl) (by kernel_rfl) (fun _ _ _ h=>h) (Or.inl ⟨by rfl,fun w _=>by go_simp;rfl⟩) hHeld ?_
 simp only [Act.put,List.setIfInBounds_toArray,List.set_cons_zero,List.set_cons_succ]
 refine wpAnyH_ready (rs:=[23]) (by kernel_rfl) (by simp) (AllReadyH.cons (o:={ dst:=none,op:=_,type:=_,pos:=_,after:=_,guard:=_ }) rfl (fun K hK=>?_) AllReadyH.nil)
 rw [if_pos (by rfl)]
 refine wp_store_row 43 (.tmp 4) (.tmp 91) rfl (w.heap.size+1) (rowOf 6 (opV o)) rfl rfl _ _ HD.out.res (by rw [rowOf_size];exact infoSt6) (by simp only [rowOf_size]) (opV_one _) ?_
 have RB:=hidE (HD.out.res.setRow (opV o))
 have HA:=hidE (HA.out.touch HD.out.res (by omega) HV.out (by have:=HGl.out;omega) (rowOf 6 (opV o)))
 refine hK.out _ _ (⟨hHeld.1.setRowOther (by have:=HX.out;omega) _,hHeld.2.1.touch (by have:=HD.out.glt;omega) _,hHeld.2.2.touch (by have:=HX.out;omega) _⟩) (fun hHeld=>?_)
 clear hK K HD
 refine wpAnyH_ready (rs:=[24]) (by kernel_rfl) (by simp) (AllReadyH.cons (o:={ dst:=some 5,op:=_,type:=_,pos:=_,after:=_,guard:=_ }) rfl (fun K hK=>?_) AllReadyH.nil)
 go_simp
 refine hK.out _ _ hHeld (fun hHeld=>?_)
 clear hK K
 refine wpAnyH_ready (rs:=[25]) (by kernel_rfl) (by simp) (AllReadyH.cons (o:={ dst:=some 6,op:=_,type:=_,pos:=_,after:=_,guard:=_ }) rfl (fun K hK=>?_) AllReadyH.nil)
 go_simp
 refine hK.out _ _ hHeld (fun hHeld=>?_)
 clear hK K
 refine wpAnyH_done (by kernel_rfl) ?_ _
 clear hHeld
 go_wp2_with fail
 exact bodyPost_ret (results_ctt Tryz.results46 _ _ (w.heap.size+1) 43 _ (0,0) _ _ _ rfl rfl rfl RB.out Tryz.underlying43 rfl (by rw [rowOf_size];exact infoSt6)) rfl (Or.inl ⟨o,rfl,HW.out.1,v4,t4,HA.out⟩)
theorem does_insF1 {w:World} {b:Nat} {cl:Int} {vW:Value} {t:Tr} {ws G:List Opn} (h:One w b cl vW t ws) (hR:RepOk G t.list ws cl) (hG:Hist G) (hcl:1≤cl∧cl≤1048575) (who kind at' c:Int) (hk:-9223372036854775808≤kind∧kind≤9223372036854775807) (ha:-9223372036854775808≤at'∧at'≤9223372036854775807) (hc:-9223372036854775808≤c∧c≤9223372036854775807) (hkk:pk kind 6≠3) (p:Nat) (hp:pk at' (((chL t.list).length:Int)+1)=p) (_:p≤(chL t.list).length) (hi:insN cl t.list ws p (97+pk c 26)=(o0,7,(t.list,ws))):Calls Tryz.prog 46 #[.pointer (some ⟨b,0,none⟩),.agg #[.int .i64 who,.int .i64 kind,.int .i64 at',.int .i64 c]] w fun e w'=>DoesP G t.list ws b cl vW w e w':=by
 have HO:=hidE h
 have HGl:=hidE h.glob
 have HLow:=hidE (And.intro (chL_low hR hG) (chL_len hR.book.set))
 have HN:=hidE (And.intro hcl (And.intro hk (And.intro ha hc)))
 have HI:Hid (∀ W,One W b cl vW t ws→Calls Tryz.prog 45 #[.pointer (some ⟨b,0,none⟩),.int .i64 p,.int .i32 (97+pk c 26)] W fun e w'=>e=.returned (.tuple #[.agg #[.int .i64 0,.int .u32 0,.int .u32 0,.int .u32 0,.int .u64 0,.int .i32 0],.int .i64 7])∧∃ v' t',After W w' b cl vW t.list ws v' t'):=hidE fun W hW=>by
  have:=hW.ins hcl p (97+pk c 26)
  rw [hi] at this
  exact this
 generalize hcs:chL t.list=cs at *
 have HCs:=hidE hcs
 have r26:=pk_range (c:=c) (n:=26) (by omega)
 have hcl2:cs.length≤120:=HLow.out.2
 have e1:IntKind.i64.wrap ((cs.length:Int)+1)=(cs.length:Int)+1:=i64r (by omega)
 have k1:¬ pk kind 6=3:=hkk
 clear h hR hG hcl hk ha hc hcs hi
 go_enter Tryz.func46,Tryz.ntmps46
 go_wp2_with (first
  | (go_at_call 26;refine ((HO.out.below (((Below.refl _ _).alloc (Nat.le_refl _) _).alloc (by simp) _)).textL HCs.out HLow.out.1).mono ?_;rintro e w1 ⟨rfl,hb1⟩;obtain ⟨cap,w2,hcv,hru,hb2,hlt⟩:=conv_low w1 HLow.out.1 (Nat.le_trans HLow.out.2 (by decide));have D0:Hid (DoesS w (w2.alloc (.cells #[.int .i64 0,.int .u32 0,.int .u32 0,.int .u32 0,.int .u64 0,.int .i32 0] 43)) who kind at' c w2.heap.size w1.heap.size cap cs∧Below w.heap.size w (w2.alloc (.cells #[.int .i64 0,.int .u32 0,.int .u32 0,.int .u32 0,.int .u64 0,.int .i32 0] 43))):=hidE (does_start hb1 hru hb2 hlt);have c1:=D0.out.1.box.cell (j:=1) (by omega);have c2:=D0.out.1.box.cell (j:=2) (by omega);have c3:=D0.out.1.box.cell (j:=3) (by omega);simp only [ed4] at c1 c2 c3;clear hb1 hru hb2 hlt)
  | (go_at_call 22;have hq:=PKd;clear hq;refine (pick_any at' ((cs.length:Int)+1) HN.out.2.2.1 (by omega) _).mono ?_;rw [hp];rintro e wx ⟨rfl,hwx⟩;obtain rfl:=hwx.symm)
  | (go_at_call 22;refine (pick_any kind 6 HN.out.2.1 (by omega) _).mono ?_;rintro e wx ⟨rfl,hwx⟩;obtain rfl:=hwx.symm;have PKd:Hid True:=hidE trivial)
  | (go_at_call 88;refine (char_any c HN.out.2.2.2 _).mono ?_;rintro e wx ⟨rfl,hwx⟩;obtain rfl:=hwx.symm)
  | (go_at_call 45;refine (HI.out _ (HO.out.below D0.out.2)).mono ?_;rintro e w4 ⟨rfl,v4,t4,ha4⟩;have H5:=hidE (does_wrote ⟨0,0,0,0,0,0⟩ HO.out D0.out ha4);clear ha4))
 have HA:=hidE H5.out.1
 have HD:=hidE H5.out.2.1
 have HV:=hidE H5.out.2.2.2.1
 refine wp_region_held_drew (S:=fun W=>RowIs W w2.heap.size 43 6 (opV o0)∧Runes W (.slice (some ⟨w1.heap.size,0,none⟩) cs.length cap) cs) (by kernel_rfl) (⟨H5.out.2.1.non.drew,H5.out.2.1.was.below (Below.refl _ _).drew⟩) (fun hHeld=>?_)
 generalize hwD:World.drew _=wD at hHeld ⊢
 have HA:=hidE (HA.out.post (drew_below hwD))
 have HD:=hidE (HD.out.below (drew_below hwD))
 clear hwD
 refine wpAnyH_take (i:=0) (oi:={ dst:=some 78,op:=_,type:=_,pos:=_,after:=_,guard:=_ }) rfl (by kernel_rfl) (by kernel_rfl) (by kernel_rfl) (fun _ _ _ h=>h) (Or.inl ⟨by rfl,fun W hS=>by have y0:=hS.1.cell (j:=0) (by omega);have y1:=hS.1.cell (j:=1) (by omega);have y2:=hS.1.cell (j:=2) (by omega);have y3:=hS.1.cell (j:=3) (by omega);have y4:=hS.1.cell (j:=4) (by omega);have y5:=hS.1.cell (j:=5) (by omega);simp only [opV] at y0 y1 y2 y3 y4 y5;go_simp;rfl⟩) hHeld ?_
 simp only [Act.put,List.setIfInBounds_toArray,List.set_cons_zero,List.set_cons_succ]
 refine wpAnyH_take (i:=1) (oi:={ dst:=some 79,op:=_,type:=_,pos:=_,after:=_,guard:=_ }) rfl (by kernel_rfl) (by kernel_rfl) (by kernel_rfl) (fun _ _ _ h=>h) (Or.inl ⟨by rfl,fun w _=>by go_simp;rfl⟩) hHeld ?_
 simp only [Act.put,List.setIfInBounds_toArray,List.set_cons_zero,List.set_cons_succ]
 refine wpAnyH_take (i:=2) (oi:={ dst:=some 80,op:=_,type:=_,pos:=_,after:=_,guard:=_ }) rfl (by kernel_rfl) (by kernel_rfl) (by kernel_rfl) (fun _ _ _ h=>h) (Or.inl ⟨by rfl,fun w _=>by go_simp;rfl⟩) hHeld ?_
 simp only [Act.put,List.setIfInBounds_toArray,List.set_cons_zero,List.set_cons_succ]
 refine wpAnyH_take (i:=3) (oi:={ dst:=some 81,op:=_,type:=_,pos:=_,after:=_,guard:=_ }) rfl (by kernel_rfl) (by kernel_rfl) (by kernel_rfl) (fun _ _ _ h=>h) (Or.inl ⟨by rfl,fun w _=>by go_simp;rfl⟩) hHeld ?_
 simp only [Act.put,List.setIfInBounds_toArray,List.set_cons_zero,List.set_cons_succ]
 refine wpAnyH_take (i:=4) (oi:={ dst:=some 82,op:=_,type:=_,pos:=_,after:=_,guard:=_ }) rfl (by kernel_rfl) (by kernel_rfl) (by kernel_rfl) (fun _ _ _ h=>h) (Or.inl ⟨by rfl,fun w _=>by go_simp;rfl⟩) hHeld ?_
 simp only [Act.put,List.setIfInBounds_toArray,List.set_cons_zero,List.set_cons_succ]
 refine wpAnyH_take (i:=6) (oi:={ dst:=some 84,op:=_,type:=_,pos:=_,after:=_,guard:=_ }) rfl (by kernel_rfl) (by kernel_rfl) (by kernel_rfl) (fun _ _ _ h=>h) (Or.inl ⟨by rfl,fun w _=>by go_simp;rfl⟩) hHeld ?_
 simp only [Act.put,List.setIfInBounds_toArray,List.set_cons_zero,List.set_cons_succ]
 refine wpAnyH_take (i:=7) (oi:={ dst:=some 85,op:=_,type:=_,pos:=_,after:=_,guard:=_ }) rfl (by kernel_rfl) (by kernel_rfl) (by kernel_rfl) (fun _ _ _ h=>h) (Or.inl ⟨by rfl,fun W hS=>by have hq:=str_runes W hS.2;go_simp;rfl⟩) hHeld ?_
 simp only [Act.put,List.setIfInBounds_toArray,List.set_cons_zero,List.set_cons_succ]
 refine wpAnyH_ready (rs:=[5]) (by kernel_rfl) (by simp) (AllReadyH.cons (o:={ dst:=some 83,op:=_,type:=_,pos:=_,after:=_,guard:=_ }) rfl (fun K hK=>?_) AllReadyH.nil)
 go_simp
 refine (HA.out.one.textL (cs:=cs) (by rw [HA.out.list];exact HCs.out) HLow.out.1).mono ?_
 rintro e w8 ⟨rfl,hbg⟩
 have HA:=hidE (HA.out.post hbg)
 have HD:=hidE (HD.out.below hbg)
 refine hK.out _ _ (⟨hHeld.1.below hbg hHeld.1.lt,hHeld.2.below hbg⟩) (fun hHeld=>?_)
 clear hK K hbg
 refine wpAnyH_take (i:=8) (oi:={ dst:=some 86,op:=_,type:=_,pos:=_,after:=_,guard:=_ }) rfl (by kernel_rfl) (by kernel_rfl) (by kernel_rfl) (fun _ _ _ h=>h) (Or.inl ⟨by rfl,fun w _=>by go_simp;rfl⟩) hHeld ?_
 simp only [Act.put,List.setIfInBounds_toArray,List.set_cons_zero,List.set_cons_succ]
 refine wpAnyH_take (i:=9) (oi:={ dst:=some 87,op:=_,type:=_,pos:=_,after:=_,guard:=_ }) rfl (by kernel_rfl) (by kernel_rfl) (by kernel_rfl) (fun _ _ _ h=>h) (Or.inl ⟨by rfl,fun w _=>by go_simp;rfl⟩) hHeld ?_
 simp only [Act.put,List.setIfInBounds_toArray,List.set_cons_zero,List.set_cons_succ]
 refine wpAnyH_ready (rs:=[10]) (by kernel_rfl) (by simp) (AllReadyH.cons (o:={ dst:=none,op:=_,type:=_,pos:=_,after:=_,guard:=_ }) rfl (fun K hK=>?_) AllReadyH.nil)
 rw [if_pos (by rfl)]
 refine wp_store_row 43 (.tmp 4) (.tmp 78) rfl (w.heap.size+1) (rowOf 6 (opV o0)) rfl rfl _ _ HD.out.res (by rw [rowOf_size];exact infoSt6) (by simp only [rowOf_size]) (opV_one _) ?_
 have RB:=hidE (HD.out.res.setRow (opV o0))
 have HA:=hidE (HA.out.touch HD.out.res (by omega) HV.out (by have:=HGl.out;omega) (rowOf 6 (opV o0)))
 refine hK.out _ _ (⟨hHeld.1.setRowOther (by have:=HD.out.nlt;omega) _,hHeld.2.touch (by have:=HD.out.glt;omega) _⟩) (fun hHeld=>?_)
 clear hK K HD
 refine wpAnyH_ready (rs:=[11]) (by kernel_rfl) (by simp) (AllReadyH.cons (o:={ dst:=some 5,op:=_,type:=_,pos:=_,after:=_,guard:=_ }) rfl (fun K hK=>?_) AllReadyH.nil)
 go_simp
 refine hK.out _ _ hHeld (fun hHeld=>?_)
 clear hK K
 refine wpAnyH_ready (rs:=[12]) (by kernel_rfl) (by simp) (AllReadyH.cons (o:={ dst:=some 6,op:=_,type:=_,pos:=_,after:=_,guard:=_ }) rfl (fun K hK=>?_) AllReadyH.nil)
 go_simp
 refine hK.out _ _ hHeld (fun hHeld=>?_)
 clear hK K
 refine wpAnyH_done (by kernel_rfl) ?_ _
 clear hHeld
 go_wp2_with fail
 exact bodyPost_ret (results_ctt Tryz.results46 _ _ (w.heap.size+1) 43 _ (0,0) _ _ _ rfl rfl rfl RB.out Tryz.underlying43 rfl (by rw [rowOf_size];exact infoSt6)) rfl (Or.inr ⟨rfl,v4,t4,HA.out⟩)
theorem does_ins2 {w:World} {b:Nat} {cl:Int} {vW:Value} {t:Tr} {ws G:List Opn} (h:One w b cl vW t ws) (hR:RepOk G t.list ws cl) (hG:Hist G) (hcl:1≤cl∧cl≤1048575) (who kind at' c:Int) (hk:-9223372036854775808≤kind∧kind≤9223372036854775807) (ha:-9223372036854775808≤at'∧at'≤9223372036854775807) (hc:-9223372036854775808≤c∧c≤9223372036854775807) (hkk:pk kind 6=3) (hz:(chL t.list).length=0) (p:Nat) (hp:pk at' (((chL t.list).length:Int)+1)=p) (hpl:p≤(chL t.list).length) (o:Opn) (hi:insN cl t.list ws p (97+pk c 26)=(o,0,(putK o t.list,ws))) (hW:Wrote G t.list ws cl o) (hch:chL (putK o t.list)=(chL t.list).take p++(97+pk c 26)::(chL t.list).drop p):Calls Tryz.prog 46 #[.pointer (some ⟨b,0,none⟩),.agg #[.int .i64 who,.int .i64 kind,.int .i64 at',.int .i64 c]] w fun e w'=>DoesP G t.list ws b cl vW w e w':=by
 have HO:=hidE h
 have HGl:=hidE h.glob
 have HLow:=hidE (And.intro (chL_low hR hG) (chL_len hR.book.set))
 have HN:=hidE (And.intro hcl (And.intro hk (And.intro ha hc)))
 have HI:Hid (∀ W,One W b cl vW t ws→Calls Tryz.prog 45 #[.pointer (some ⟨b,0,none⟩),.int .i64 p,.int .i32 (97+pk c 26)] W fun e w'=>e=.returned (.tuple #[.agg #[.int .i64 o.kd,.int .u32 o.cl,.int .u32 o.ck,.int .u32 o.st,.int .u64 o.rf,.int .i32 o.ch],.int .i64 0])∧∃ v' t',After W w' b cl vW (putK o t.list) ws v' t'):=hidE fun W hW=>by
  have:=hW.ins hcl p (97+pk c 26)
  rw [hi] at this
  exact this
 have hs:=put_split hpl (97+pk c 26)
 rw [← hch] at hs
 have HW:=hidE (And.intro hW (chL_low hW.rep hW.hist))
 generalize hcs:chL t.list=cs at *
 have HCs:=hidE hcs
 generalize hcs2:chL (putK o t.list)=cs2 at *
 have HS:=hidE (And.intro hcs2 hs)
 have hl2:cs2.length=cs.length+1:=hs.1
 clear hcs2 hs hW hch
 have r26:=pk_range (c:=c) (n:=26) (by omega)
 have hcl2:cs.length≤120:=HLow.out.2
 have e1:IntKind.i64.wrap ((cs.length:Int)+1)=(cs.length:Int)+1:=i64r (by omega)
 have k2:¬ (0:Int) < (cs.length:Int):=by omega
 clear hz
 clear h hR hG hcl hk ha hc hcs hi
 go_enter Tryz.func46,Tryz.ntmps46
 go_wp2_with (first
  | (go_at_call 26;have hq:=H5;clear hq;refine (H5.out.1.one.textL (cs:=cs2) (by rw [H5.out.1.list];exact HS.out.1) HW.out.2).mono ?_;rintro e w6 ⟨rfl,hb6⟩;obtain ⟨cap2,w7,hcv2,hru2,hb7,hlt7⟩:=conv_low w6 HW.out.2 (by omega);rw [hl2] at hcv2 hru2;have H6:=hidE (And.intro hru2 (And.intro ((H5.out.1.post hb6).post hb7) (And.intro ((H5.out.2.1.below hb6).below hb7) (And.intro ((H5.out.2.2.1.below hb6 H5.out.2.2.1.lt).below hb7 (Nat.lt_of_lt_of_le H5.out.2.2.1.lt hb6.size)) (And.intro H5.out.2.2.2 (Nat.lt_of_lt_of_le H5.out.2.2.1.lt hb6.size))))));clear hb6 hru2 hb7 hlt7)
  | (go_at_call 26;refine ((HO.out.below (((Below.refl _ _).alloc (Nat.le_refl _) _).alloc (by simp) _)).textL HCs.out HLow.out.1).mono ?_;rintro e w1 ⟨rfl,hb1⟩;obtain ⟨cap,w2,hcv,hru,hb2,hlt⟩:=conv_low w1 HLow.out.1 (Nat.le_trans HLow.out.2 (by decide));have D0:Hid (DoesS w (w2.alloc (.cells #[.int .i64 0,.int .u32 0,.int .u32 0,.int .u32 0,.int .u64 0,.int .i32 0] 43)) who kind at' c w2.heap.size w1.heap.size cap cs∧Below w.heap.size w (w2.alloc (.cells #[.int .i64 0,.int .u32 0,.int .u32 0,.int .u32 0,.int .u64 0,.int .i32 0] 43))):=hidE (does_start hb1 hru hb2 hlt);have c1:=D0.out.1.box.cell (j:=1) (by omega);have c2:=D0.out.1.box.cell (j:=2) (by omega);have c3:=D0.out.1.box.cell (j:=3) (by omega);simp only [ed4] at c1 c2 c3;clear hb1 hru hb2 hlt)
  | (go_at_call 22;have hq:=PKd;clear hq;refine (pick_any at' ((cs.length:Int)+1) HN.out.2.2.1 (by omega) _).mono ?_;rw [hp];rintro e wx ⟨rfl,hwx⟩;obtain rfl:=hwx.symm)
  | (go_at_call 22;refine (pick_any kind 6 HN.out.2.1 (by omega) _).mono ?_;rintro e wx ⟨rfl,hwx⟩;obtain rfl:=hwx.symm;have PKd:Hid True:=hidE trivial)
  | (go_at_call 88;refine (char_any c HN.out.2.2.2 _).mono ?_;rintro e wx ⟨rfl,hwx⟩;obtain rfl:=hwx.symm)
  | (go_at_call 45;refine (HI.out _ (HO.out.below D0.out.2)).mono ?_;rintro e w4 ⟨rfl,v4,t4,ha4⟩;have H5:=hidE (does_wrote o HO.out D0.out ha4);clear ha4))
 have HA:=hidE H6.out.2.1
 have HD:=hidE H6.out.2.2.1
 have HV:=hidE H6.out.2.2.2.2.1.1
 have HX:=hidE (And.intro H6.out.2.2.2.2.1.2 H6.out.2.2.2.2.2)
 have hp0:(p:Int) < (cs.length:Int)+1:=by omega
 have hp1:(0:Int)≤(p:Int):=by omega
 refine wp_region_held_drew (S:=fun W=>RowIs W w4.heap.size 43 6 (opV o)∧Runes W (.slice (some ⟨w1.heap.size,0,none⟩) cs.length cap) cs∧Runes W (.slice (some ⟨w6.heap.size,0,none⟩) (cs.length+1) cap2) cs2) (by kernel_rfl) (⟨H6.out.2.2.2.1.drew,H6.out.2.2.1.was.below (Below.refl _ _).drew,H6.out.1.below (Below.refl _ _).drew⟩) (fun hHeld=>?_)
 generalize hwD:World.drew _=wD at hHeld ⊢
 have HA:=hidE (HA.out.post (drew_below hwD))
 have HD:=hidE (HD.out.below (drew_below hwD))
 clear hwD
 refine wpAnyH_take (i:=0) (oi:={ dst:=some 91,op:=_,type:=_,pos:=_,after:=_,guard:=_ }) rfl (by kernel_rfl) (by kernel_rfl) (by kernel_rfl) (fun _ _ _ h=>h) (Or.inl ⟨by rfl,fun W hS=>by have y0:=hS.1.cell (j:=0) (by omega);have y1:=hS.1.cell (j:=1) (by omega);have y2:=hS.1.cell (j:=2) (by omega);have y3:=hS.1.cell (j:=3) (by omega);have y4:=hS.1.cell (j:=4) (by omega);have y5:=hS.1.cell (j:=5) (by omega);simp only [opV] at y0 y1 y2 y3 y4 y5;go_simp;rfl⟩) hHeld ?_
 simp only [Act.put,List.setIfInBounds_toArray,List.set_cons_zero,List.set_cons_succ]
 refine wpAnyH_take (i:=1) (oi:={ dst:=some 92,op:=_,type:=_,pos:=_,after:=_,guard:=_ }) rfl (by kernel_rfl) (by kernel_rfl) (by kernel_rfl) (fun _ _ _ h=>h) (Or.inl ⟨by rfl,fun w _=>by go_simp;rfl⟩) hHeld ?_
 simp only [Act.put,List.setIfInBounds_toArray,List.set_cons_zero,List.set_cons_succ]
 refine wpAnyH_take (i:=2) (oi:={ dst:=some 93,op:=_,type:=_,pos:=_,after:=_,guard:=_ }) rfl (by kernel_rfl) (by kernel_rfl) (by kernel_rfl) (fun _ _ _ h=>h) (Or.inl ⟨by rfl,fun w _=>by go_simp;rfl⟩) hHeld ?_
 simp only [Act.put,List.setIfInBounds_toArray,List.set_cons_zero,List.set_cons_succ]
 refine wpAnyH_take (i:=3) (oi:={ dst:=some 94,op:=_,type:=_,pos:=_,after:=_,guard:=_ }) rfl (by kernel_rfl) (by kernel_rfl) (by kernel_rfl) (fun _ _ _ h=>h) (Or.inl ⟨by rfl,fun w _=>by go_simp;rfl⟩) hHeld ?_
 simp only [Act.put,List.setIfInBounds_toArray,List.set_cons_zero,List.set_cons_succ]
 refine wpAnyH_take (i:=4) (oi:={ dst:=some 95,op:=_,type:=_,pos:=_,after:=_,guard:=_ }) rfl (by kernel_rfl) (by kernel_rfl) (by kernel_rfl) (fun _ _ _ h=>h) (Or.inl ⟨by rfl,fun w _=>by go_simp;rfl⟩) hHeld ?_
 simp only [Act.put,List.setIfInBounds_toArray,List.set_cons_zero,List.set_cons_succ]
 refine wpAnyH_take (i:=5) (oi:={ dst:=some 96,op:=_,type:=_,pos:=_,after:=_,guard:=_ }) rfl (by kernel_rfl) (by kernel_rfl) (by kernel_rfl) (fun _ _ _ h=>h) (Or.inl ⟨by rfl,fun w _=>by go_simp;rfl⟩) hHeld ?_
 simp only [Act.put,List.setIfInBounds_toArray,List.set_cons_zero,List.set_cons_succ]
 refine wpAnyH_take (i:=6) (oi:={ dst:=some 97,op:=_,type:=_,pos:=_,after:=_,guard:=_ }) rfl (by kernel_rfl) (by kernel_rfl) (by kernel_rfl) (fun _ _ _ h=>h) (Or.inl ⟨by rfl,fun w _=>by go_simp;rfl⟩) hHeld ?_
 simp only [Act.put,List.setIfInBounds_toArray,List.set_cons_zero,List.set_cons_succ]
 refine wpAnyH_take (i:=7) (oi:={ dst:=some 98,op:=_,type:=_,pos:=_,after:=_,guard:=_ }) rfl (by kernel_rfl) (by kernel_rfl) (by kernel_rfl) (fun _ _ _ h=>h) (Or.inl ⟨by rfl,fun w _=>by go_simp;rfl⟩) hHeld ?_
 simp only [Act.put,List.setIfInBounds_toArray,List.set_cons_zero,List.set_cons_succ]
 refine wpAnyH_take (i:=8) (oi:={ dst:=some 99,op:=_,type:=_,pos:=_,after:=_,guard:=_ }) rfl (by kernel_rfl) (by kernel_rfl) (by kernel_rfl) (fun _ _ _ h=>h) (Or.inl ⟨by rfl,fun w _=>by go_simp;rfl⟩) hHeld ?_
 simp only [Act.put,List.setIfInBounds_toArray,List.set_cons_zero,List.set_cons_succ]
 refine wpAnyH_take (i:=9) (oi:={ dst:=some 100,op:=_,type:=_,pos:=_,after:=_,guard:=_ }) rfl (by kernel_rfl) (by kernel_rfl) (by kernel_rfl) (fun _ _ _ h=>h) (Or.inl ⟨by rfl,fun w _=>by go_simp;rfl⟩) hHeld ?_
 simp only [Act.put,List.setIfInBounds_toArray,List.set_cons_zero,List.set_cons_succ]
 refine wpAnyH_take (i:=10) (oi:={ dst:=some 101,op:=_,type:=_,pos:=_,after:=_,guard:=_ }) rfl (by kernel_rfl) (by kernel_rfl) (by kernel_rfl) (fun _ _ _ h=>h) (Or.inl ⟨by rfl,fun w _=>by go_simp;rfl⟩) hHeld ?_
 simp only [Act.put,List.setIfInBounds_toArray,List.set_cons_zero,List.set_cons_succ]
 refine wpAnyH_take (i:=11) (oi:={ dst:=some 102,op:=_,type:=_,pos:=_,after:=_,guard:=_ }) rfl (by kernel_rfl) (by kernel_rfl) (by kernel_rfl) (fun _ _ _ h=>h) (Or.inl ⟨by rfl,fun W hS=>by have hq:=runes_at hS.2.2 HS.out.2.2.2;go_simp;rfl⟩) hHeld ?_
 simp only [Act.put,List.setIfInBounds_toArray,List.set_cons_zero,List.set_cons_succ]
 refine wpAnyH_take (i:=12) (oi:={ dst:=some 103,op:=_,type:=_,pos:=_,after:=_,guard:=_ }) rfl (by kernel_rfl) (by kernel_rfl) (by kernel_rfl) (fun _ _ _ h=>h) (Or.inl ⟨by rfl,fun w _=>by go_simp;rfl⟩) hHeld ?_
 simp only [Act.put,List.setIfInBounds_toArray,List.set_cons_zero,List.set_cons_succ]
 refine wpAnyH_take (i:=13) (oi:={ dst:=some 104,op:=_,type:=_,pos:=_,after:=_,guard:=_ }) rfl (by kernel_rfl) (by kernel_rfl) (by kernel_rfl) (fun _ _ _ h=>h) (Or.inl ⟨by rfl,fun w _=>by go_simp;rfl⟩) hHeld ?_
 simp only [Act.put,List.setIfInBounds_toArray,List.set_cons_zero,List.set_cons_succ]
 refine wpAnyH_take (i:=14) (oi:={ dst:=some 105,op:=_,type:=_,pos:=_,after:=_,guard:=_ }) rfl (by kernel_rfl) (by kernel_rfl) (by kernel_rfl) (fun _ _ _ h=>h) (Or.inl ⟨by rfl,fun w _=>by go_simp;rfl⟩) hHeld ?_
 simp only [Act.put,List.setIfInBounds_toArray,List.set_cons_zero,List.set_cons_succ]
 refine wpAnyH_take (i:=15) (oi:={ dst:=some 106,op:=_,type:=_,pos:=_,after:=_,guard:=_ }) rfl (by kernel_rfl) (by kernel_rfl) (by kernel_rfl) (fun _ _ _ h=>h) (Or.inl ⟨by rfl,fun w _=>by go_simp;rfl⟩) hHeld ?_
 simp only [Act.put,List.setIfInBounds_toArray,List.set_cons_zero,List.set_cons_succ]
 refine wpAnyH_take (i:=16) (oi:={ dst:=some 107,op:=_,type:=_,pos:=_,after:=_,guard:=_ }) rfl (by kernel_rfl) (by kernel_rfl) (by kernel_rfl) (fun _ _ _ h=>h) (Or.inl ⟨by rfl,fun w _=>by go_simp;rfl⟩) hHeld ?_
 simp only [Act.put,List.setIfInBounds_toArray,List.set_cons_zero,List.set_cons_succ]
 refine wpAnyH_take (i:=17) (oi:={ dst:=some 108,op:=_,type:=_,pos:=_,after:=_,guard:=_ }) rfl (by kernel_rfl) (by kernel_rfl) (by kernel_rfl) (fun _ _ _ h=>h) (Or.inl ⟨by rfl,fun w _=>by go_simp;rfl⟩) hHeld ?_
 simp only [Act.put,List.setIfInBounds_toArray,List.set_cons_zero,List.set_cons_succ]
 refine wpAnyH_take (i:=19) (oi:={ dst:=some 110,op:=_,type:=_,pos:=_,after:=_,guard:=_ }) rfl (by kernel_rfl) (by kernel_rfl) (by kernel_rfl) (fun _ _ _ h=>h) (Or.inl ⟨by rfl,fun w _=>by go_simp;rfl⟩) hHeld ?_
 simp only [Act.put,List.setIfInBounds_toArray,List.set_cons_zero,List.set_cons_succ]
 refine wpAnyH_take (i:=20) (oi:={ dst:=some 111,op:=_,type:=_,pos:=_,after:=_,guard:=_ }) rfl (by kernel_rfl) (by kernel_rfl) (by kernel_rfl) (fun _ _ _ h=>h) (Or.inl ⟨by rfl,fun W hS=>by have hq:=str_runes W hS.2.1;go_simp;rfl⟩) hHeld ?_
 simp only [Act.put,List.setIfInBounds_toArray,List.set_cons_zero,List.set_cons_succ]
 refine wpAnyH_ready (rs:=[18]) (by kernel_rfl) (by simp) (AllReadyH.cons (o:={ dst:=some 109,op:=_,type:=_,pos:=_,after:=_,guard:=_ }) rfl (fun K hK=>?_) AllReadyH.nil)
 go_simp
 refine (without_eq hHeld.2.2 (by omega) HS.out.2.2.1).mono ?_
 rintro e w8 ⟨rfl,hbg⟩
 have HA:=hidE (HA.out.post hbg)
 have HD:=hidE (HD.out.below hbg)
 refine hK.out _ _ (⟨hHeld.1.below hbg hHeld.1.lt,hHeld.2.1.below hbg,hHeld.2.2.below hbg⟩) (fun hHeld=>?_)
 clear hK K hbg
 refine wpAnyH_take (i:=21) (oi:={ dst:=some 112,op:=_,type:=_,pos:=_,after:=_,guard:=_ }) rfl (by kernel_rfl) (by kernel_rfl) (by kernel_rfl) (fun _ _ _ h=>h) (Or.inl ⟨by rfl,fun w _=>by go_simp;rfl⟩) hHeld ?_
 simp only [Act.put,List.setIfInBounds_toArray,List.set_cons_zero,List.set_cons_succ]
 refine wpAnyH_take (i:=22) (oi:={ dst:=some 113,op:=_,type:=_,pos:=_,after:=_,guard:=_ }) rfl (by kernel_rfl) (by kernel_rfl) (by kernel_rfl) (fun _ _ _ h=>h) (Or.inl ⟨by rfl,fun w _=>by go_simp;rfl⟩) hHeld ?_
 simp only [Act.put,List.setIfInBounds_toArray,List.set_cons_zero,List.set_cons_succ]
 refine wpAnyH_ready (rs:=[23]) (by kernel_rfl) (by simp) (AllReadyH.cons (o:={ dst:=none,op:=_,type:=_,pos:=_,after:=_,guard:=_ }) rfl (fun K hK=>?_) AllReadyH.nil)
 rw [if_pos (by rfl)]
 refine wp_store_row 43 (.tmp 4) (.tmp 91) rfl (w.heap.size+1) (rowOf 6 (opV o)) rfl rfl _ _ HD.out.res (by rw [rowOf_size];exact infoSt6) (by simp only [rowOf_size]) (opV_one _) ?_
 have RB:=hidE (HD.out.res.setRow (opV o))
 have HA:=hidE (HA.out.touch HD.out.res (by omega) HV.out (by have:=HGl.out;omega) (rowOf 6 (opV o)))
 refine hK.out _ _ (⟨hHeld.1.setRowOther (by have:=HX.out;omega) _,hHeld.2.1.touch (by have:=HD.out.glt;omega) _,hHeld.2.2.touch (by have:=HX.out;omega) _⟩) (fun hHeld=>?_)
 clear hK K HD
 refine wpAnyH_ready (rs:=[24]) (by kernel_rfl) (by simp) (AllReadyH.cons (o:={ dst:=some 5,op:=_,type:=_,pos:=_,after:=_,guard:=_ }) rfl (fun K hK=>?_) AllReadyH.nil)
 go_simp
 refine hK.out _ _ hHeld (fun hHeld=>?_)
 clear hK K
 refine wpAnyH_ready (rs:=[25]) (by kernel_rfl) (by simp) (AllReadyH.cons (o:={ dst:=some 6,op:=_,type:=_,pos:=_,after:=_,guard:=_ }) rfl (fun K hK=>?_) AllReadyH.nil)
 go_simp
 refine hK.out _ _ hHeld (fun hHeld=>?_)
 clear hK K
 refine wpAnyH_done (by kernel_rfl) ?_ _
 clear hHeld
 go_wp2_with fail
 exact bodyPost_ret (results_ctt Tryz.results46 _ _ (w.heap.size+1) 43 _ (0,0) _ _ _ rfl rfl rfl RB.out Tryz.underlying43 rfl (by rw [rowOf_size];exact infoSt6)) rfl (Or.inl ⟨o,rfl,HW.out.1,v4,t4,HA.out⟩)
theorem does_insF2 {w:World} {b:Nat} {cl:Int} {vW:Value} {t:Tr} {ws G:List Opn} (h:One w b cl vW t ws) (hR:RepOk G t.list ws cl) (hG:Hist G) (hcl:1≤cl∧cl≤1048575) (who kind at' c:Int) (hk:-9223372036854775808≤kind∧kind≤9223372036854775807) (ha:-9223372036854775808≤at'∧at'≤9223372036854775807) (hc:-9223372036854775808≤c∧c≤9223372036854775807) (hkk:pk kind 6=3) (hz:(chL t.list).length=0) (p:Nat) (hp:pk at' (((chL t.list).length:Int)+1)=p) (_:p≤(chL t.list).length) (hi:insN cl t.list ws p (97+pk c 26)=(o0,7,(t.list,ws))):Calls Tryz.prog 46 #[.pointer (some ⟨b,0,none⟩),.agg #[.int .i64 who,.int .i64 kind,.int .i64 at',.int .i64 c]] w fun e w'=>DoesP G t.list ws b cl vW w e w':=by
 have HO:=hidE h
 have HGl:=hidE h.glob
 have HLow:=hidE (And.intro (chL_low hR hG) (chL_len hR.book.set))
 have HN:=hidE (And.intro hcl (And.intro hk (And.intro ha hc)))
 have HI:Hid (∀ W,One W b cl vW t ws→Calls Tryz.prog 45 #[.pointer (some ⟨b,0,none⟩),.int .i64 p,.int .i32 (97+pk c 26)] W fun e w'=>e=.returned (.tuple #[.agg #[.int .i64 0,.int .u32 0,.int .u32 0,.int .u32 0,.int .u64 0,.int .i32 0],.int .i64 7])∧∃ v' t',After W w' b cl vW t.list ws v' t'):=hidE fun W hW=>by
  have:=hW.ins hcl p (97+pk c 26)
  rw [hi] at this
  exact this
 generalize hcs:chL t.list=cs at *
 have HCs:=hidE hcs
 have r26:=pk_range (c:=c) (n:=26) (by omega)
 have hcl2:cs.length≤120:=HLow.out.2
 have e1:IntKind.i64.wrap ((cs.length:Int)+1)=(cs.length:Int)+1:=i64r (by omega)
 have k2:¬ (0:Int) < (cs.length:Int):=by omega
 clear hz
 clear h hR hG hcl hk ha hc hcs hi
 go_enter Tryz.func46,Tryz.ntmps46
 go_wp2_with (first
  | (go_at_call 26;refine ((HO.out.below (((Below.refl _ _).alloc (Nat.le_refl _) _).alloc (by simp) _)).textL HCs.out HLow.out.1).mono ?_;rintro e w1 ⟨rfl,hb1⟩;obtain ⟨cap,w2,hcv,hru,hb2,hlt⟩:=conv_low w1 HLow.out.1 (Nat.le_trans HLow.out.2 (by decide));have D0:Hid (DoesS w (w2.alloc (.cells #[.int .i64 0,.int .u32 0,.int .u32 0,.int .u32 0,.int .u64 0,.int .i32 0] 43)) who kind at' c w2.heap.size w1.heap.size cap cs∧Below w.heap.size w (w2.alloc (.cells #[.int .i64 0,.int .u32 0,.int .u32 0,.int .u32 0,.int .u64 0,.int .i32 0] 43))):=hidE (does_start hb1 hru hb2 hlt);have c1:=D0.out.1.box.cell (j:=1) (by omega);have c2:=D0.out.1.box.cell (j:=2) (by omega);have c3:=D0.out.1.box.cell (j:=3) (by omega);simp only [ed4] at c1 c2 c3;clear hb1 hru hb2 hlt)
  | (go_at_call 22;have hq:=PKd;clear hq;refine (pick_any at' ((cs.length:Int)+1) HN.out.2.2.1 (by omega) _).mono ?_;rw [hp];rintro e wx ⟨rfl,hwx⟩;obtain rfl:=hwx.symm)
  | (go_at_call 22;refine (pick_any kind 6 HN.out.2.1 (by omega) _).mono ?_;rintro e wx ⟨rfl,hwx⟩;obtain rfl:=hwx.symm;have PKd:Hid True:=hidE trivial)
  | (go_at_call 88;refine (char_any c HN.out.2.2.2 _).mono ?_;rintro e wx ⟨rfl,hwx⟩;obtain rfl:=hwx.symm)
  | (go_at_call 45;refine (HI.out _ (HO.out.below D0.out.2)).mono ?_;rintro e w4 ⟨rfl,v4,t4,ha4⟩;have H5:=hidE (does_wrote ⟨0,0,0,0,0,0⟩ HO.out D0.out ha4);clear ha4))
 have HA:=hidE H5.out.1
 have HD:=hidE H5.out.2.1
 have HV:=hidE H5.out.2.2.2.1
 refine wp_region_held_drew (S:=fun W=>RowIs W w2.heap.size 43 6 (opV o0)∧Runes W (.slice (some ⟨w1.heap.size,0,none⟩) cs.length cap) cs) (by kernel_rfl) (⟨H5.out.2.1.non.drew,H5.out.2.1.was.below (Below.refl _ _).drew⟩) (fun hHeld=>?_)
 generalize hwD:World.drew _=wD at hHeld ⊢
 have HA:=hidE (HA.out.post (drew_below hwD))
 have HD:=hidE (HD.out.below (drew_below hwD))
 clear hwD
 refine wpAnyH_take (i:=0) (oi:={ dst:=some 78,op:=_,type:=_,pos:=_,after:=_,guard:=_ }) rfl (by kernel_rfl) (by kernel_rfl) (by kernel_rfl) (fun _ _ _ h=>h) (Or.inl ⟨by rfl,fun W hS=>by have y0:=hS.1.cell (j:=0) (by omega);have y1:=hS.1.cell (j:=1) (by omega);have y2:=hS.1.cell (j:=2) (by omega);have y3:=hS.1.cell (j:=3) (by omega);have y4:=hS.1.cell (j:=4) (by omega);have y5:=hS.1.cell (j:=5) (by omega);simp only [opV] at y0 y1 y2 y3 y4 y5;go_simp;rfl⟩) hHeld ?_
 simp only [Act.put,List.setIfInBounds_toArray,List.set_cons_zero,List.set_cons_succ]
 refine wpAnyH_take (i:=1) (oi:={ dst:=some 79,op:=_,type:=_,pos:=_,after:=_,guard:=_ }) rfl (by kernel_rfl) (by kernel_rfl) (by kernel_rfl) (fun _ _ _ h=>h) (Or.inl ⟨by rfl,fun w _=>by go_simp;rfl⟩) hHeld ?_
 simp only [Act.put,List.setIfInBounds_toArray,List.set_cons_zero,List.set_cons_succ]
 refine wpAnyH_take (i:=2) (oi:={ dst:=some 80,op:=_,type:=_,pos:=_,after:=_,guard:=_ }) rfl (by kernel_rfl) (by kernel_rfl) (by kernel_rfl) (fun _ _ _ h=>h) (Or.inl ⟨by rfl,fun w _=>by go_simp;rfl⟩) hHeld ?_
 simp only [Act.put,List.setIfInBounds_toArray,List.set_cons_zero,List.set_cons_succ]
 refine wpAnyH_take (i:=3) (oi:={ dst:=some 81,op:=_,type:=_,pos:=_,after:=_,guard:=_ }) rfl (by kernel_rfl) (by kernel_rfl) (by kernel_rfl) (fun _ _ _ h=>h) (Or.inl ⟨by rfl,fun w _=>by go_simp;rfl⟩) hHeld ?_
 simp only [Act.put,List.setIfInBounds_toArray,List.set_cons_zero,List.set_cons_succ]
 refine wpAnyH_take (i:=4) (oi:={ dst:=some 82,op:=_,type:=_,pos:=_,after:=_,guard:=_ }) rfl (by kernel_rfl) (by kernel_rfl) (by kernel_rfl) (fun _ _ _ h=>h) (Or.inl ⟨by rfl,fun w _=>by go_simp;rfl⟩) hHeld ?_
 simp only [Act.put,List.setIfInBounds_toArray,List.set_cons_zero,List.set_cons_succ]
 refine wpAnyH_take (i:=6) (oi:={ dst:=some 84,op:=_,type:=_,pos:=_,after:=_,guard:=_ }) rfl (by kernel_rfl) (by kernel_rfl) (by kernel_rfl) (fun _ _ _ h=>h) (Or.inl ⟨by rfl,fun w _=>by go_simp;rfl⟩) hHeld ?_
 simp only [Act.put,List.setIfInBounds_toArray,List.set_cons_zero,List.set_cons_succ]
 refine wpAnyH_take (i:=7) (oi:={ dst:=some 85,op:=_,type:=_,pos:=_,after:=_,guard:=_ }) rfl (by kernel_rfl) (by kernel_rfl) (by kernel_rfl) (fun _ _ _ h=>h) (Or.inl ⟨by rfl,fun W hS=>by have hq:=str_runes W hS.2;go_simp;rfl⟩) hHeld ?_
 simp only [Act.put,List.setIfInBounds_toArray,List.set_cons_zero,List.set_cons_succ]
 refine wpAnyH_ready (rs:=[5]) (by kernel_rfl) (by simp) (AllReadyH.cons (o:={ dst:=some 83,op:=_,type:=_,pos:=_,after:=_,guard:=_ }) rfl (fun K hK=>?_) AllReadyH.nil)
 go_simp
 refine (HA.out.one.textL (cs:=cs) (by rw [HA.out.list];exact HCs.out) HLow.out.1).mono ?_
 rintro e w8 ⟨rfl,hbg⟩
 have HA:=hidE (HA.out.post hbg)
 have HD:=hidE (HD.out.below hbg)
 refine hK.out _ _ (⟨hHeld.1.below hbg hHeld.1.lt,hHeld.2.below hbg⟩) (fun hHeld=>?_)
 clear hK K hbg
 refine wpAnyH_take (i:=8) (oi:={ dst:=some 86,op:=_,type:=_,pos:=_,after:=_,guard:=_ }) rfl (by kernel_rfl) (by kernel_rfl) (by kernel_rfl) (fun _ _ _ h=>h) (Or.inl ⟨by rfl,fun w _=>by go_simp;rfl⟩) hHeld ?_
 simp only [Act.put,List.setIfInBounds_toArray,List.set_cons_zero,List.set_cons_succ]
 refine wpAnyH_take (i:=9) (oi:={ dst:=some 87,op:=_,type:=_,pos:=_,after:=_,guard:=_ }) rfl (by kernel_rfl) (by kernel_rfl) (by kernel_rfl) (fun _ _ _ h=>h) (Or.inl ⟨by rfl,fun w _=>by go_simp;rfl⟩) hHeld ?_
 simp only [Act.put,List.setIfInBounds_toArray,List.set_cons_zero,List.set_cons_succ]
 refine wpAnyH_ready (rs:=[10]) (by kernel_rfl) (by simp) (AllReadyH.cons (o:={ dst:=none,op:=_,type:=_,pos:=_,after:=_,guard:=_ }) rfl (fun K hK=>?_) AllReadyH.nil)
 rw [if_pos (by rfl)]
 refine wp_store_row 43 (.tmp 4) (.tmp 78) rfl (w.heap.size+1) (rowOf 6 (opV o0)) rfl rfl _ _ HD.out.res (by rw [rowOf_size];exact infoSt6) (by simp only [rowOf_size]) (opV_one _) ?_
 have RB:=hidE (HD.out.res.setRow (opV o0))
 have HA:=hidE (HA.out.touch HD.out.res (by omega) HV.out (by have:=HGl.out;omega) (rowOf 6 (opV o0)))
 refine hK.out _ _ (⟨hHeld.1.setRowOther (by have:=HD.out.nlt;omega) _,hHeld.2.touch (by have:=HD.out.glt;omega) _⟩) (fun hHeld=>?_)
 clear hK K HD
 refine wpAnyH_ready (rs:=[11]) (by kernel_rfl) (by simp) (AllReadyH.cons (o:={ dst:=some 5,op:=_,type:=_,pos:=_,after:=_,guard:=_ }) rfl (fun K hK=>?_) AllReadyH.nil)
 go_simp
 refine hK.out _ _ hHeld (fun hHeld=>?_)
 clear hK K
 refine wpAnyH_ready (rs:=[12]) (by kernel_rfl) (by simp) (AllReadyH.cons (o:={ dst:=some 6,op:=_,type:=_,pos:=_,after:=_,guard:=_ }) rfl (fun K hK=>?_) AllReadyH.nil)
 go_simp
 refine hK.out _ _ hHeld (fun hHeld=>?_)
 clear hK K
 refine wpAnyH_done (by kernel_rfl) ?_ _
 clear hHeld
 go_wp2_with fail
 exact bodyPost_ret (results_ctt Tryz.results46 _ _ (w.heap.size+1) 43 _ (0,0) _ _ _ rfl rfl rfl RB.out Tryz.underlying43 rfl (by rw [rowOf_size];exact infoSt6)) rfl (Or.inr ⟨rfl,v4,t4,HA.out⟩)
theorem does_del {w:World} {b:Nat} {cl:Int} {vW:Value} {t:Tr} {ws G:List Opn} (h:One w b cl vW t ws) (hR:RepOk G t.list ws cl) (hG:Hist G) (hcl:1≤cl∧cl≤1048575) (who kind at' c:Int) (hk:-9223372036854775808≤kind∧kind≤9223372036854775807) (ha:-9223372036854775808≤at'∧at'≤9223372036854775807) (hc:-9223372036854775808≤c∧c≤9223372036854775807) (hkk:pk kind 6=3) (p:Nat) (hp:pk at' ((chL t.list).length:Int)=p) (hpl:p < (chL t.list).length) (o:Opn) (hi:delN cl t.list ws p=(o,0,(putK o t.list,ws))) (hW:Wrote G t.list ws cl o) (hch:chL (putK o t.list)=(chL t.list).eraseIdx p):Calls Tryz.prog 46 #[.pointer (some ⟨b,0,none⟩),.agg #[.int .i64 who,.int .i64 kind,.int .i64 at',.int .i64 c]] w fun e w'=>DoesP G t.list ws b cl vW w e w':=by
 have HO:=hidE h
 have HGl:=hidE h.glob
 have HLow:=hidE (And.intro (chL_low hR hG) (chL_len hR.book.set))
 have HN:=hidE (And.intro hcl (And.intro hk (And.intro ha hc)))
 have HI:Hid (∀ W,One W b cl vW t ws→Calls Tryz.prog 79 #[.pointer (some ⟨b,0,none⟩),.int .i64 p] W fun e w'=>e=.returned (.tuple #[.agg #[.int .i64 o.kd,.int .u32 o.cl,.int .u32 o.ck,.int .u32 o.st,.int .u64 o.rf,.int .i32 o.ch],.int .i64 0])∧∃ v' t',After W w' b cl vW (putK o t.list) ws v' t'):=hidE fun W hW=>by
  have:=hW.del hcl p
  rw [hi] at this
  exact this
 have HW:=hidE (And.intro hW (chL_low hW.rep hW.hist))
 generalize hcs:chL t.list=cs at *
 have HCs:=hidE hcs
 generalize hcs2:chL (putK o t.list)=cs2 at *
 have HS:=hidE hcs2
 have HE2:=hidE hch.symm
 clear hcs2 hW hch
 have hcl2:cs.length≤120:=HLow.out.2
 have k1:(0:Int) < (cs.length:Int):=by omega
 clear h hR hG hcl hk ha hc hcs hi
 go_enter Tryz.func46,Tryz.ntmps46
 go_wp2_with (first
  | (go_at_call 26;refine ((HO.out.below (((Below.refl _ _).alloc (Nat.le_refl _) _).alloc (by simp) _)).textL HCs.out HLow.out.1).mono ?_;rintro e w1 ⟨rfl,hb1⟩;obtain ⟨cap,w2,hcv,hru,hb2,hlt⟩:=conv_low w1 HLow.out.1 (Nat.le_trans HLow.out.2 (by decide));have D0:Hid (DoesS w (w2.alloc (.cells #[.int .i64 0,.int .u32 0,.int .u32 0,.int .u32 0,.int .u64 0,.int .i32 0] 43)) who kind at' c w2.heap.size w1.heap.size cap cs∧Below w.heap.size w (w2.alloc (.cells #[.int .i64 0,.int .u32 0,.int .u32 0,.int .u32 0,.int .u64 0,.int .i32 0] 43))):=hidE (does_start hb1 hru hb2 hlt);have c1:=D0.out.1.box.cell (j:=1) (by omega);have c2:=D0.out.1.box.cell (j:=2) (by omega);have c3:=D0.out.1.box.cell (j:=3) (by omega);simp only [ed4] at c1 c2 c3;clear hb1 hru hb2 hlt)
  | (go_at_call 22;have hq:=PKd;clear hq;refine (pick_any at' (cs.length:Int) HN.out.2.2.1 (by omega) _).mono ?_;rw [hp];rintro e wx ⟨rfl,hwx⟩;obtain rfl:=hwx.symm)
  | (go_at_call 22;refine (pick_any kind 6 HN.out.2.1 (by omega) _).mono ?_;rintro e wx ⟨rfl,hwx⟩;obtain rfl:=hwx.symm;have PKd:Hid True:=hidE trivial)
  | (go_at_call 79;refine (HI.out _ (HO.out.below D0.out.2)).mono ?_;rintro e w4 ⟨rfl,v4,t4,ha4⟩;have H5:=hidE (does_wrote o HO.out D0.out ha4);clear ha4))
 have HA:=hidE H5.out.1
 have HD:=hidE H5.out.2.1
 have HV:=hidE H5.out.2.2.2.1
 have HX:=hidE H5.out.2.2.2.2
 refine wp_region_held_drew (S:=fun W=>RowIs W w4.heap.size 43 6 (opV o)) (by kernel_rfl) (H5.out.2.2.1.drew) (fun hHeld=>?_)
 generalize hwD:World.drew _=wD at hHeld ⊢
 have HA:=hidE (HA.out.post (drew_below hwD))
 have HD:=hidE (HD.out.below (drew_below hwD))
 clear hwD
 refine wpAnyH_take (i:=0) (oi:={ dst:=some 53,op:=_,type:=_,pos:=_,after:=_,guard:=_ }) rfl (by kernel_rfl) (by kernel_rfl) (by kernel_rfl) (fun _ _ _ h=>h) (Or.inl ⟨by rfl,fun W hS=>by have y0:=hS.cell (j:=0) (by omega);have y1:=hS.cell (j:=1) (by omega);have y2:=hS.cell (j:=2) (by omega);have y3:=hS.cell (j:=3) (by omega);have y4:=hS.cell (j:=4) (by omega);have y5:=hS.cell (j:=5) (by omega);simp only [opV] at y0 y1 y2 y3 y4 y5;go_simp;rfl⟩) hHeld ?_
 simp only [Act.put,List.setIfInBounds_toArray,List.set_cons_zero,List.set_cons_succ]
 refine wpAnyH_take (i:=1) (oi:={ dst:=some 54,op:=_,type:=_,pos:=_,after:=_,guard:=_ }) rfl (by kernel_rfl) (by kernel_rfl) (by kernel_rfl) (fun _ _ _ h=>h) (Or.inl ⟨by rfl,fun w _=>by go_simp;rfl⟩) hHeld ?_
 simp only [Act.put,List.setIfInBounds_toArray,List.set_cons_zero,List.set_cons_succ]
 refine wpAnyH_take (i:=3) (oi:={ dst:=some 56,op:=_,type:=_,pos:=_,after:=_,guard:=_ }) rfl (by kernel_rfl) (by kernel_rfl) (by kernel_rfl) (fun _ _ _ h=>h) (Or.inl ⟨by rfl,fun w _=>by go_simp;rfl⟩) hHeld ?_
 simp only [Act.put,List.setIfInBounds_toArray,List.set_cons_zero,List.set_cons_succ]
 refine wpAnyH_take (i:=4) (oi:={ dst:=some 57,op:=_,type:=_,pos:=_,after:=_,guard:=_ }) rfl (by kernel_rfl) (by kernel_rfl) (by kernel_rfl) (fun _ _ _ h=>h) (Or.inl ⟨by rfl,fun w _=>by go_simp;rfl⟩) hHeld ?_
 simp only [Act.put,List.setIfInBounds_toArray,List.set_cons_zero,List.set_cons_succ]
 refine wpAnyH_ready (rs:=[2]) (by kernel_rfl) (by simp) (AllReadyH.cons (o:={ dst:=some 55,op:=_,type:=_,pos:=_,after:=_,guard:=_ }) rfl (fun K hK=>?_) AllReadyH.nil)
 go_simp
 refine (HA.out.one.textL (cs:=cs2) (by rw [HA.out.list];exact HS.out) HW.out.2).mono ?_
 rintro e w6 ⟨rfl,hbg⟩
 have HA:=hidE (HA.out.post hbg)
 have HD:=hidE (HD.out.below hbg)
 refine hK.out _ _ (hHeld.below hbg hHeld.lt) (fun hHeld=>?_)
 clear hK K hbg
 refine wpAnyH_ready (rs:=[5]) (by kernel_rfl) (by simp) (AllReadyH.cons (o:={ dst:=some 58,op:=_,type:=_,pos:=_,after:=_,guard:=_ }) rfl (fun K hK=>?_) AllReadyH.nil)
 go_simp
 refine (without_eq HD.out.was hpl HE2.out).mono ?_
 rintro e w8 ⟨rfl,hbg⟩
 have HA:=hidE (HA.out.post hbg)
 have HD:=hidE (HD.out.below hbg)
 refine hK.out _ _ (hHeld.below hbg hHeld.lt) (fun hHeld=>?_)
 clear hK K hbg
 refine wpAnyH_take (i:=6) (oi:={ dst:=some 59,op:=_,type:=_,pos:=_,after:=_,guard:=_ }) rfl (by kernel_rfl) (by kernel_rfl) (by kernel_rfl) (fun _ _ _ h=>h) (Or.inl ⟨by rfl,fun w _=>by go_simp;rfl⟩) hHeld ?_
 simp only [Act.put,List.setIfInBounds_toArray,List.set_cons_zero,List.set_cons_succ]
 refine wpAnyH_ready (rs:=[7]) (by kernel_rfl) (by simp) (AllReadyH.cons (o:={ dst:=none,op:=_,type:=_,pos:=_,after:=_,guard:=_ }) rfl (fun K hK=>?_) AllReadyH.nil)
 rw [if_pos (by rfl)]
 refine wp_store_row 43 (.tmp 4) (.tmp 53) rfl (w.heap.size+1) (rowOf 6 (opV o)) rfl rfl _ _ HD.out.res (by rw [rowOf_size];exact infoSt6) (by simp only [rowOf_size]) (opV_one _) ?_
 have RB:=hidE (HD.out.res.setRow (opV o))
 have HA:=hidE (HA.out.touch HD.out.res (by omega) HV.out (by have:=HGl.out;omega) (rowOf 6 (opV o)))
 refine hK.out _ _ (hHeld.setRowOther (by have:=HX.out;omega) _) (fun hHeld=>?_)
 clear hK K HD
 refine wpAnyH_ready (rs:=[8]) (by kernel_rfl) (by simp) (AllReadyH.cons (o:={ dst:=some 5,op:=_,type:=_,pos:=_,after:=_,guard:=_ }) rfl (fun K hK=>?_) AllReadyH.nil)
 go_simp
 refine hK.out _ _ hHeld (fun hHeld=>?_)
 clear hK K
 refine wpAnyH_ready (rs:=[9]) (by kernel_rfl) (by simp) (AllReadyH.cons (o:={ dst:=some 6,op:=_,type:=_,pos:=_,after:=_,guard:=_ }) rfl (fun K hK=>?_) AllReadyH.nil)
 go_simp
 refine hK.out _ _ hHeld (fun hHeld=>?_)
 clear hK K
 refine wpAnyH_done (by kernel_rfl) ?_ _
 clear hHeld
 go_wp2_with fail
 exact bodyPost_ret (results_ctt Tryz.results46 _ _ (w.heap.size+1) 43 _ (0,0) _ _ _ rfl rfl rfl RB.out Tryz.underlying43 rfl (by rw [rowOf_size];exact infoSt6)) rfl (Or.inl ⟨o,rfl,HW.out.1,v4,t4,HA.out⟩)
theorem does_delF {w:World} {b:Nat} {cl:Int} {vW:Value} {t:Tr} {ws G:List Opn} (h:One w b cl vW t ws) (hR:RepOk G t.list ws cl) (hG:Hist G) (hcl:1≤cl∧cl≤1048575) (who kind at' c:Int) (hk:-9223372036854775808≤kind∧kind≤9223372036854775807) (ha:-9223372036854775808≤at'∧at'≤9223372036854775807) (hc:-9223372036854775808≤c∧c≤9223372036854775807) (hkk:pk kind 6=3) (p:Nat) (hp:pk at' ((chL t.list).length:Int)=p) (_:p < (chL t.list).length) (hi:delN cl t.list ws p=(o0,7,(t.list,ws))):Calls Tryz.prog 46 #[.pointer (some ⟨b,0,none⟩),.agg #[.int .i64 who,.int .i64 kind,.int .i64 at',.int .i64 c]] w fun e w'=>DoesP G t.list ws b cl vW w e w':=by
 have HO:=hidE h
 have HGl:=hidE h.glob
 have HLow:=hidE (And.intro (chL_low hR hG) (chL_len hR.book.set))
 have HN:=hidE (And.intro hcl (And.intro hk (And.intro ha hc)))
 have HI:Hid (∀ W,One W b cl vW t ws→Calls Tryz.prog 79 #[.pointer (some ⟨b,0,none⟩),.int .i64 p] W fun e w'=>e=.returned (.tuple #[.agg #[.int .i64 0,.int .u32 0,.int .u32 0,.int .u32 0,.int .u64 0,.int .i32 0],.int .i64 7])∧∃ v' t',After W w' b cl vW t.list ws v' t'):=hidE fun W hW=>by
  have:=hW.del hcl p
  rw [hi] at this
  exact this
 generalize hcs:chL t.list=cs at *
 have HCs:=hidE hcs
 have hcl2:cs.length≤120:=HLow.out.2
 have k1:(0:Int) < (cs.length:Int):=by omega
 clear h hR hG hcl hk ha hc hcs hi
 go_enter Tryz.func46,Tryz.ntmps46
 go_wp2_with (first
  | (go_at_call 26;refine ((HO.out.below (((Below.refl _ _).alloc (Nat.le_refl _) _).alloc (by simp) _)).textL HCs.out HLow.out.1).mono ?_;rintro e w1 ⟨rfl,hb1⟩;obtain ⟨cap,w2,hcv,hru,hb2,hlt⟩:=conv_low w1 HLow.out.1 (Nat.le_trans HLow.out.2 (by decide));have D0:Hid (DoesS w (w2.alloc (.cells #[.int .i64 0,.int .u32 0,.int .u32 0,.int .u32 0,.int .u64 0,.int .i32 0] 43)) who kind at' c w2.heap.size w1.heap.size cap cs∧Below w.heap.size w (w2.alloc (.cells #[.int .i64 0,.int .u32 0,.int .u32 0,.int .u32 0,.int .u64 0,.int .i32 0] 43))):=hidE (does_start hb1 hru hb2 hlt);have c1:=D0.out.1.box.cell (j:=1) (by omega);have c2:=D0.out.1.box.cell (j:=2) (by omega);have c3:=D0.out.1.box.cell (j:=3) (by omega);simp only [ed4] at c1 c2 c3;clear hb1 hru hb2 hlt)
  | (go_at_call 22;have hq:=PKd;clear hq;refine (pick_any at' (cs.length:Int) HN.out.2.2.1 (by omega) _).mono ?_;rw [hp];rintro e wx ⟨rfl,hwx⟩;obtain rfl:=hwx.symm)
  | (go_at_call 22;refine (pick_any kind 6 HN.out.2.1 (by omega) _).mono ?_;rintro e wx ⟨rfl,hwx⟩;obtain rfl:=hwx.symm;have PKd:Hid True:=hidE trivial)
  | (go_at_call 79;refine (HI.out _ (HO.out.below D0.out.2)).mono ?_;rintro e w4 ⟨rfl,v4,t4,ha4⟩;have H5:=hidE (does_wrote ⟨0,0,0,0,0,0⟩ HO.out D0.out ha4);clear ha4))
 have HA:=hidE H5.out.1
 have HD:=hidE H5.out.2.1
 have HV:=hidE H5.out.2.2.2.1
 refine wp_region_held_drew (S:=fun W=>RowIs W w2.heap.size 43 6 (opV o0)∧Runes W (.slice (some ⟨w1.heap.size,0,none⟩) cs.length cap) cs) (by kernel_rfl) (⟨H5.out.2.1.non.drew,H5.out.2.1.was.below (Below.refl _ _).drew⟩) (fun hHeld=>?_)
 generalize hwD:World.drew _=wD at hHeld ⊢
 have HA:=hidE (HA.out.post (drew_below hwD))
 have HD:=hidE (HD.out.below (drew_below hwD))
 clear hwD
 refine wpAnyH_take (i:=0) (oi:={ dst:=some 43,op:=_,type:=_,pos:=_,after:=_,guard:=_ }) rfl (by kernel_rfl) (by kernel_rfl) (by kernel_rfl) (fun _ _ _ h=>h) (Or.inl ⟨by rfl,fun W hS=>by have y0:=hS.1.cell (j:=0) (by omega);have y1:=hS.1.cell (j:=1) (by omega);have y2:=hS.1.cell (j:=2) (by omega);have y3:=hS.1.cell (j:=3) (by omega);have y4:=hS.1.cell (j:=4) (by omega);have y5:=hS.1.cell (j:=5) (by omega);simp only [opV] at y0 y1 y2 y3 y4 y5;go_simp;rfl⟩) hHeld ?_
 simp only [Act.put,List.setIfInBounds_toArray,List.set_cons_zero,List.set_cons_succ]
 refine wpAnyH_take (i:=1) (oi:={ dst:=some 44,op:=_,type:=_,pos:=_,after:=_,guard:=_ }) rfl (by kernel_rfl) (by kernel_rfl) (by kernel_rfl) (fun _ _ _ h=>h) (Or.inl ⟨by rfl,fun w _=>by go_simp;rfl⟩) hHeld ?_
 simp only [Act.put,List.setIfInBounds_toArray,List.set_cons_zero,List.set_cons_succ]
 refine wpAnyH_take (i:=2) (oi:={ dst:=some 45,op:=_,type:=_,pos:=_,after:=_,guard:=_ }) rfl (by kernel_rfl) (by kernel_rfl) (by kernel_rfl) (fun _ _ _ h=>h) (Or.inl ⟨by rfl,fun w _=>by go_simp;rfl⟩) hHeld ?_
 simp only [Act.put,List.setIfInBounds_toArray,List.set_cons_zero,List.set_cons_succ]
 refine wpAnyH_take (i:=3) (oi:={ dst:=some 46,op:=_,type:=_,pos:=_,after:=_,guard:=_ }) rfl (by kernel_rfl) (by kernel_rfl) (by kernel_rfl) (fun _ _ _ h=>h) (Or.inl ⟨by rfl,fun w _=>by go_simp;rfl⟩) hHeld ?_
 simp only [Act.put,List.setIfInBounds_toArray,List.set_cons_zero,List.set_cons_succ]
 refine wpAnyH_take (i:=4) (oi:={ dst:=some 47,op:=_,type:=_,pos:=_,after:=_,guard:=_ }) rfl (by kernel_rfl) (by kernel_rfl) (by kernel_rfl) (fun _ _ _ h=>h) (Or.inl ⟨by rfl,fun w _=>by go_simp;rfl⟩) hHeld ?_
 simp only [Act.put,List.setIfInBounds_toArray,List.set_cons_zero,List.set_cons_succ]
 refine wpAnyH_take (i:=6) (oi:={ dst:=some 49,op:=_,type:=_,pos:=_,after:=_,guard:=_ }) rfl (by kernel_rfl) (by kernel_rfl) (by kernel_rfl) (fun _ _ _ h=>h) (Or.inl ⟨by rfl,fun w _=>by go_simp;rfl⟩) hHeld ?_
 simp only [Act.put,List.setIfInBounds_toArray,List.set_cons_zero,List.set_cons_succ]
 refine wpAnyH_take (i:=7) (oi:={ dst:=some 50,op:=_,type:=_,pos:=_,after:=_,guard:=_ }) rfl (by kernel_rfl) (by kernel_rfl) (by kernel_rfl) (fun _ _ _ h=>h) (Or.inl ⟨by rfl,fun W hS=>by have hq:=str_runes W hS.2;go_simp;rfl⟩) hHeld ?_
 simp only [Act.put,List.setIfInBounds_toArray,List.set_cons_zero,List.set_cons_succ]
 refine wpAnyH_ready (rs:=[5]) (by kernel_rfl) (by simp) (AllReadyH.cons (o:={ dst:=some 48,op:=_,type:=_,pos:=_,after:=_,guard:=_ }) rfl (fun K hK=>?_) AllReadyH.nil)
 go_simp
 refine (HA.out.one.textL (cs:=cs) (by rw [HA.out.list];exact HCs.out) HLow.out.1).mono ?_
 rintro e w8 ⟨rfl,hbg⟩
 have HA:=hidE (HA.out.post hbg)
 have HD:=hidE (HD.out.below hbg)
 refine hK.out _ _ (⟨hHeld.1.below hbg hHeld.1.lt,hHeld.2.below hbg⟩) (fun hHeld=>?_)
 clear hK K hbg
 refine wpAnyH_take (i:=8) (oi:={ dst:=some 51,op:=_,type:=_,pos:=_,after:=_,guard:=_ }) rfl (by kernel_rfl) (by kernel_rfl) (by kernel_rfl) (fun _ _ _ h=>h) (Or.inl ⟨by rfl,fun w _=>by go_simp;rfl⟩) hHeld ?_
 simp only [Act.put,List.setIfInBounds_toArray,List.set_cons_zero,List.set_cons_succ]
 refine wpAnyH_take (i:=9) (oi:={ dst:=some 52,op:=_,type:=_,pos:=_,after:=_,guard:=_ }) rfl (by kernel_rfl) (by kernel_rfl) (by kernel_rfl) (fun _ _ _ h=>h) (Or.inl ⟨by rfl,fun w _=>by go_simp;rfl⟩) hHeld ?_
 simp only [Act.put,List.setIfInBounds_toArray,List.set_cons_zero,List.set_cons_succ]
 refine wpAnyH_ready (rs:=[10]) (by kernel_rfl) (by simp) (AllReadyH.cons (o:={ dst:=none,op:=_,type:=_,pos:=_,after:=_,guard:=_ }) rfl (fun K hK=>?_) AllReadyH.nil)
 rw [if_pos (by rfl)]
 refine wp_store_row 43 (.tmp 4) (.tmp 43) rfl (w.heap.size+1) (rowOf 6 (opV o0)) rfl rfl _ _ HD.out.res (by rw [rowOf_size];exact infoSt6) (by simp only [rowOf_size]) (opV_one _) ?_
 have RB:=hidE (HD.out.res.setRow (opV o0))
 have HA:=hidE (HA.out.touch HD.out.res (by omega) HV.out (by have:=HGl.out;omega) (rowOf 6 (opV o0)))
 refine hK.out _ _ (⟨hHeld.1.setRowOther (by have:=HD.out.nlt;omega) _,hHeld.2.touch (by have:=HD.out.glt;omega) _⟩) (fun hHeld=>?_)
 clear hK K HD
 refine wpAnyH_ready (rs:=[11]) (by kernel_rfl) (by simp) (AllReadyH.cons (o:={ dst:=some 5,op:=_,type:=_,pos:=_,after:=_,guard:=_ }) rfl (fun K hK=>?_) AllReadyH.nil)
 go_simp
 refine hK.out _ _ hHeld (fun hHeld=>?_)
 clear hK K
 refine wpAnyH_ready (rs:=[12]) (by kernel_rfl) (by simp) (AllReadyH.cons (o:={ dst:=some 6,op:=_,type:=_,pos:=_,after:=_,guard:=_ }) rfl (fun K hK=>?_) AllReadyH.nil)
 go_simp
 refine hK.out _ _ hHeld (fun hHeld=>?_)
 clear hK K
 refine wpAnyH_done (by kernel_rfl) ?_ _
 clear hHeld
 go_wp2_with fail
 exact bodyPost_ret (results_ctt Tryz.results46 _ _ (w.heap.size+1) 43 _ (0,0) _ _ _ rfl rfl rfl RB.out Tryz.underlying43 rfl (by rw [rowOf_size];exact infoSt6)) rfl (Or.inr ⟨rfl,v4,t4,HA.out⟩)
theorem does_any {w:World} {b:Nat} {cl:Int} {vW:Value} {t:Tr} {ws G:List Opn} (h:One w b cl vW t ws) (hR:RepOk G t.list ws cl) (hG:Hist G) (hl:G.length < 30) (hcl:1≤cl∧cl≤1048575) (who kind at' c:Int) (hk:-9223372036854775808≤kind∧kind≤9223372036854775807) (ha:-9223372036854775808≤at'∧at'≤9223372036854775807) (hc:-9223372036854775808≤c∧c≤9223372036854775807):Calls Tryz.prog 46 #[.pointer (some ⟨b,0,none⟩),.agg #[.int .i64 who,.int .i64 kind,.int .i64 at',.int .i64 c]] w fun e w'=>DoesP G t.list ws b cl vW w e w':=by
 by_cases hd:pk kind 6=3∧0 < (chL t.list).length
 ·have r:=pk_range (c:=at') (n:=((chL t.list).length:Int)) (by omega)
  obtain ⟨p,hp⟩:∃ p:Nat,pk at' ((chL t.list).length:Int)=p:=⟨(pk at' ((chL t.list).length:Int)).toNat,by omega⟩
  rcases del_case hR hG hl hcl p (by omega) with e | ⟨o,e,hW,hch⟩
  ·exact does_delF h hR hG hcl who kind at' c hk ha hc hd.1 p hp (by omega) e
  ·exact does_del h hR hG hcl who kind at' c hk ha hc hd.1 p hp (by omega) o e hW hch
 ·have r:=pk_range (c:=at') (n:=((chL t.list).length:Int)+1) (by omega)
  have r26:=pk_range (c:=c) (n:=26) (by omega)
  obtain ⟨p,hp⟩:∃ p:Nat,pk at' (((chL t.list).length:Int)+1)=p:=⟨(pk at' (((chL t.list).length:Int)+1)).toNat,by omega⟩
  by_cases hk3:pk kind 6=3
  ·have hz:(chL t.list).length=0:=by
    rcases Nat.eq_zero_or_pos (chL t.list).length with q | q
    ·exact q
    ·exact absurd ⟨hk3,q⟩ hd
   rcases ins_case hR hG hl hcl p (by omega) (97+pk c 26) (by omega) with e | ⟨o,e,hW,hch⟩
   ·exact does_insF2 h hR hG hcl who kind at' c hk ha hc hk3 hz p hp (by omega) e
   ·exact does_ins2 h hR hG hcl who kind at' c hk ha hc hk3 hz p hp (by omega) o e hW hch
  ·rcases ins_case hR hG hl hcl p (by omega) (97+pk c 26) (by omega) with e | ⟨o,e,hW,hch⟩
   ·exact does_insF1 h hR hG hcl who kind at' c hk ha hc hk3 p hp (by omega) e
   ·exact does_ins1 h hR hG hcl who kind at' c hk ha hc hk3 p hp (by omega) o e hW hch
end Go.Proofs.YtgccjefbedpmpaaGreatDoor

import Derived.Test.YtgccjefbedpmpaaGreatDoorYRSum
namespace Go.Proofs.YtgccjefbedpmpaaGreatDoor
open Go.RowKit
set_option maxRecDepth 100000
set_option maxHeartbeats 8000000
theorem varint_small (x:Int) (h0:0≤x) (h1:x<128) (w:World) :
  Calls Tryz.prog 73 #[.int .u64 x] w fun e w'=>e=.returned (.string (strOfNums [x]))∧Below w.heap.size w w':=by
 have h:=varint_any x.toNat (by omega) w
 rw [Int.toNat_of_nonneg h0,vb_lt (by omega),Int.toNat_of_nonneg h0] at h
 exact h
theorem varint_key (w:World) :
  Calls Tryz.prog 73 #[.int .u64 1048577] w fun e w'=>e=.returned (.string (strOfNums [129]++(strOfNums [128]++strOfNums [64])))∧Below w.heap.size w w':=by
 have h:=varint_any 1048577 (by omega) w
 rw [vb_ge (by omega),vb_ge (by omega),vb_lt (by omega)] at h
 exact h
theorem conv_at (W:World) (g:Nat) (v:Int) (h:W.cell? ⟨g,0,none⟩=some (.int .u8 v)):(convert 59 9 (.slice (some ⟨g,0,none⟩) 1 1)).run Tryz.prog W=.ok (.string (strOfNums [v])) W:=
 run_convert_bytes_arg W 59 5 Tryz.underlying59 Tryz.underlying5 g 0 1 1 [v] rfl (fun i hi=>by
  obtain rfl:i=0:=by omega
  exact h) _ Tryz.underlying9
theorem alloc_cell (W:World) (v:Value) (t:TypeId):(W.alloc (.cells #[v] t)).cell? ⟨W.heap.size,0,none⟩=some v:=(cell_of_row _ _ _ _ _ _ (heap_alloc_new W _)).trans rfl
section
variable {B g : Nat} {w W w2 : World} {v0 v1 v2 v3 v4 v5 : Value}
theorem six_kept (hB:B≤w.heap.size) (h:Below W.heap.size W w2) (k:Below B w W∧W.cell? ⟨g,0,none⟩=some v0∧W.cell? ⟨g,1,none⟩=some v1∧W.cell? ⟨g,2,none⟩=some v2∧W.cell? ⟨g,3,none⟩=some v3∧W.cell? ⟨g,4,none⟩=some v4∧W.cell? ⟨g,5,none⟩=some v5):Below B w w2∧w2.cell? ⟨g,0,none⟩=some v0∧w2.cell? ⟨g,1,none⟩=some v1∧w2.cell? ⟨g,2,none⟩=some v2∧w2.cell? ⟨g,3,none⟩=some v3∧w2.cell? ⟨g,4,none⟩=some v4∧w2.cell? ⟨g,5,none⟩=some v5:=
 ⟨k.1.trans (h.mono (Nat.le_trans hB k.1.size)),(h.cell (block_lt_of_cell k.2.1)).trans k.2.1,(h.cell (block_lt_of_cell k.2.2.1)).trans k.2.2.1,(h.cell (block_lt_of_cell k.2.2.2.1)).trans k.2.2.2.1,(h.cell (block_lt_of_cell k.2.2.2.2.1)).trans k.2.2.2.2.1,(h.cell (block_lt_of_cell k.2.2.2.2.2.1)).trans k.2.2.2.2.2.1,(h.cell (block_lt_of_cell k.2.2.2.2.2.2)).trans k.2.2.2.2.2.2⟩
theorem six_alloc (hB:B≤w.heap.size) (k:Below B w W∧W.cell? ⟨g,0,none⟩=some v0∧W.cell? ⟨g,1,none⟩=some v1∧W.cell? ⟨g,2,none⟩=some v2∧W.cell? ⟨g,3,none⟩=some v3∧W.cell? ⟨g,4,none⟩=some v4∧W.cell? ⟨g,5,none⟩=some v5) (o:Obj):Below B w (W.alloc o)∧(W.alloc o).cell? ⟨g,0,none⟩=some v0∧(W.alloc o).cell? ⟨g,1,none⟩=some v1∧(W.alloc o).cell? ⟨g,2,none⟩=some v2∧(W.alloc o).cell? ⟨g,3,none⟩=some v3∧(W.alloc o).cell? ⟨g,4,none⟩=some v4∧(W.alloc o).cell? ⟨g,5,none⟩=some v5:=six_kept hB ((Below.refl _ _).alloc (Nat.le_refl _) o) k
theorem six_drew (k:Below B w W∧W.cell? ⟨g,0,none⟩=some v0∧W.cell? ⟨g,1,none⟩=some v1∧W.cell? ⟨g,2,none⟩=some v2∧W.cell? ⟨g,3,none⟩=some v3∧W.cell? ⟨g,4,none⟩=some v4∧W.cell? ⟨g,5,none⟩=some v5):Below B w W.drew∧W.drew.cell? ⟨g,0,none⟩=some v0∧W.drew.cell? ⟨g,1,none⟩=some v1∧W.drew.cell? ⟨g,2,none⟩=some v2∧W.drew.cell? ⟨g,3,none⟩=some v3∧W.drew.cell? ⟨g,4,none⟩=some v4∧W.drew.cell? ⟨g,5,none⟩=some v5:=⟨k.1.drew,k.2⟩
end
theorem bytes_gen (cl ck st rf ch:Int) (v1 v2 v3 v4 v5:ByteArray) (h1:Hid (∀ W,Calls Tryz.prog 73 #[.int .u64 cl] W fun e w'=>e=.returned (.string v1)∧Below W.heap.size W w')) (h2:Hid (∀ W,Calls Tryz.prog 73 #[.int .u64 ck] W fun e w'=>e=.returned (.string v2)∧Below W.heap.size W w')) (h3:Hid (∀ W,Calls Tryz.prog 73 #[.int .u64 st] W fun e w'=>e=.returned (.string v3)∧Below W.heap.size W w')) (h4:Hid (∀ W,Calls Tryz.prog 73 #[.int .u64 rf] W fun e w'=>e=.returned (.string v4)∧Below W.heap.size W w')) (h5:Hid (∀ W,Calls Tryz.prog 73 #[.int .u64 ch] W fun e w'=>e=.returned (.string v5)∧Below W.heap.size W w')) (s1:v1.size≤10) (s2:v2.size≤10) (s3:v3.size≤10) (s4:v4.size≤10) (s5:v5.size≤10) (x1:IntKind.u64.wrap cl=cl) (x2:IntKind.u64.wrap ck=ck) (x3:IntKind.u64.wrap st=st) (x5:IntKind.u64.wrap ch=ch) (w:World) :
  Calls Tryz.prog 74 #[.agg #[.int .i64 1,.int .u32 cl,.int .u32 ck,.int .u32 st,.int .u64 rf,.int .i32 ch]] w fun e w'=>e=.returned (.string (strOfNums [1]++v1++v2++v3++v4++v5))∧Below w.heap.size w w':=by
 have y1:IntKind.u8.wrap 1=1:=rfl
 have n0:(strOfNums [1]).size=1:=strOfNums_size [1]
 have n1:(strOfNums [1]).size+v1.size≤9223372036854775807:=by omega
 have n2:(strOfNums [1]++v1).size+v2.size≤9223372036854775807:=by simp only [ByteArray.size_append];omega
 have n3:(strOfNums [1]++v1++v2).size+v3.size≤9223372036854775807:=by simp only [ByteArray.size_append];omega
 have n4:(strOfNums [1]++v1++v2++v3).size+v4.size≤9223372036854775807:=by simp only [ByteArray.size_append];omega
 have n5:(strOfNums [1]++v1++v2++v3++v4).size+v5.size≤9223372036854775807:=by simp only [ByteArray.size_append];omega
 clear n0
 have c0:(w.alloc (.cells #[.int .i64 1,.int .u32 cl,.int .u32 ck,.int .u32 st,.int .u64 rf,.int .i32 ch] 43)).cell? ⟨w.heap.size,0,none⟩=some (.int .i64 1):=(cell_of_row _ _ _ _ _ _ (heap_alloc_new w _)).trans rfl
 have c1:(w.alloc (.cells #[.int .i64 1,.int .u32 cl,.int .u32 ck,.int .u32 st,.int .u64 rf,.int .i32 ch] 43)).cell? ⟨w.heap.size,1,none⟩=some (.int .u32 cl):=(cell_of_row _ _ _ _ _ _ (heap_alloc_new w _)).trans rfl
 have c2:(w.alloc (.cells #[.int .i64 1,.int .u32 cl,.int .u32 ck,.int .u32 st,.int .u64 rf,.int .i32 ch] 43)).cell? ⟨w.heap.size,2,none⟩=some (.int .u32 ck):=(cell_of_row _ _ _ _ _ _ (heap_alloc_new w _)).trans rfl
 have c3:(w.alloc (.cells #[.int .i64 1,.int .u32 cl,.int .u32 ck,.int .u32 st,.int .u64 rf,.int .i32 ch] 43)).cell? ⟨w.heap.size,3,none⟩=some (.int .u32 st):=(cell_of_row _ _ _ _ _ _ (heap_alloc_new w _)).trans rfl
 have c4:(w.alloc (.cells #[.int .i64 1,.int .u32 cl,.int .u32 ck,.int .u32 st,.int .u64 rf,.int .i32 ch] 43)).cell? ⟨w.heap.size,4,none⟩=some (.int .u64 rf):=(cell_of_row _ _ _ _ _ _ (heap_alloc_new w _)).trans rfl
 have c5:(w.alloc (.cells #[.int .i64 1,.int .u32 cl,.int .u32 ck,.int .u32 st,.int .u64 rf,.int .i32 ch] 43)).cell? ⟨w.heap.size,5,none⟩=some (.int .i32 ch):=(cell_of_row _ _ _ _ _ _ (heap_alloc_new w _)).trans rfl
 have hA:Below w.heap.size w (w.alloc (.cells #[.int .i64 1,.int .u32 cl,.int .u32 ck,.int .u32 st,.int .u64 rf,.int .i32 ch] 43)):=(Below.refl _ _).alloc (Nat.le_refl _) _
 have hst:=six_drew ⟨hA,c0,c1,c2,c3,c4,c5⟩
 clear hA c0 c1 c2 c3 c4 c5
 go_enter Tryz.func74,Tryz.ntmps74
 go_wp2
 refine wp_region_held_drew (S:=fun w'=>Below w.heap.size w w'∧w'.cell? ⟨w.heap.size,0,none⟩=some (.int .i64 1)∧w'.cell? ⟨w.heap.size,1,none⟩=some (.int .u32 cl)∧w'.cell? ⟨w.heap.size,2,none⟩=some (.int .u32 ck)∧w'.cell? ⟨w.heap.size,3,none⟩=some (.int .u32 st)∧w'.cell? ⟨w.heap.size,4,none⟩=some (.int .u64 rf)∧w'.cell? ⟨w.heap.size,5,none⟩=some (.int .i32 ch)) (by kernel_rfl) hst (fun hHeld=>?_)
 clear hst
 generalize World.drew _=wD at hHeld ⊢
 refine wF (fun _ h=>h.2) fun x1=>?_
 refine tkx 0 4 x1 ?_
 refine tkx 1 5 x1 ?_
 refine tkx 2 6 x1 ?_
 refine tkx 5 9 x1 ?_
 refine tkx 6 10 x1 ?_
 refine tkx 7 11 x1 ?_
 refine tkx 10 14 x1 ?_
 refine tkx 11 15 x1 ?_
 refine tkx 12 16 x1 ?_
 refine tkx 15 19 x1 ?_
 refine tkx 16 20 x1 ?_
 refine tkx 17 21 x1 ?_
 refine tkx 20 24 x1 ?_
 refine tkx 21 25 x1 ?_
 refine wF (fun w _=>@run_string_add_sum Tryz.prog w (strOfNums [1]) (v1) n1) fun t1=>?_
 refine wF (fun w _=>@run_string_add_sum Tryz.prog w (strOfNums [1]++v1) (v2) n2) fun t2=>?_
 refine wF (fun w _=>@run_string_add_sum Tryz.prog w (strOfNums [1]++v1++v2) (v3) n3) fun t3=>?_
 refine wF (fun w _=>@run_string_add_sum Tryz.prog w (strOfNums [1]++v1++v2++v3) (v4) n4) fun t4=>?_
 apply meet1 fun _ _=>True
 intro k24
 apply meet1 fun _ _=>True
 intro k23
 apply meet1 fun _ _=>True
 intro k22
 apply meet1 fun _ _=>True
 intro k21
 apply meet1 fun _ _=>True
 intro k20
 apply meet1 fun W g=>W.cell? ⟨g,0,none⟩=some (.int .u8 1)
 intro k14
 apply meet1 fun W g=>W.cell? ⟨g,0,none⟩=some (.int .u8 1)
 intro k13
 apply meet1 fun W g=>W.cell? ⟨g,0,none⟩=some (.int .u8 1)
 intro k12
 apply meet1 fun W g=>W.cell? ⟨g,0,none⟩=some (.int .u8 1)
 intro k11
 apply meet1 fun W g=>W.cell? ⟨g,0,none⟩=some (.int .u8 1)
 intro k10
 apply meet0
 intro k04
 apply meet0
 intro k03
 apply meet0
 intro k02
 apply meet0
 intro k01
 refine rd2 3 (some 7) 8 (some 12) rfl rfl (fun K hK=>?_) (fun K hK=>?_)
 ·go_simp
  have q:=alloc_cell wD (.int .u8 1) 5
  have hHeld:=six_alloc (Nat.le_refl _) hHeld (.cells #[.int .u8 1] 5)
  generalize wD.heap.size=g at q ⊢
  generalize World.alloc _ _=w1 at q hHeld ⊢
  exact hK.out _ _ hHeld fun hHeld=>k10 w1 g hHeld q
 ·go_simp
  refine (h1.out _).mono ?_
  rintro e w1 ⟨rfl,hbw⟩
  exact hK.out _ _ (six_kept (Nat.le_refl _) hbw hHeld) fun hHeld=>k01 w1 hHeld
 intro W hHeld
 refine rd2 3 (some 7) 13 (some 17) rfl rfl (fun K hK=>?_) (fun K hK=>?_)
 ·go_simp
  have q:=alloc_cell W (.int .u8 1) 5
  have hHeld:=six_alloc (Nat.le_refl _) hHeld (.cells #[.int .u8 1] 5)
  generalize W.heap.size=g at q ⊢
  generalize World.alloc _ _=w1 at q hHeld ⊢
  exact hK.out _ _ hHeld fun hHeld=>k11 w1 g hHeld q
 ·go_simp
  refine (h2.out _).mono ?_
  rintro e w1 ⟨rfl,hbw⟩
  exact hK.out _ _ (six_kept (Nat.le_refl _) hbw hHeld) fun hHeld=>k02 w1 hHeld
 intro W hHeld
 refine rd2 3 (some 7) 18 (some 22) rfl rfl (fun K hK=>?_) (fun K hK=>?_)
 ·go_simp
  have q:=alloc_cell W (.int .u8 1) 5
  have hHeld:=six_alloc (Nat.le_refl _) hHeld (.cells #[.int .u8 1] 5)
  generalize W.heap.size=g at q ⊢
  generalize World.alloc _ _=w1 at q hHeld ⊢
  exact hK.out _ _ hHeld fun hHeld=>k12 w1 g hHeld q
 ·go_simp
  refine (h3.out _).mono ?_
  rintro e w1 ⟨rfl,hbw⟩
  exact hK.out _ _ (six_kept (Nat.le_refl _) hbw hHeld) fun hHeld=>k03 w1 hHeld
 intro W hHeld
 refine rd2 3 (some 7) 22 (some 26) rfl rfl (fun K hK=>?_) (fun K hK=>?_)
 ·go_simp
  have q:=alloc_cell W (.int .u8 1) 5
  have hHeld:=six_alloc (Nat.le_refl _) hHeld (.cells #[.int .u8 1] 5)
  generalize W.heap.size=g at q ⊢
  generalize World.alloc _ _=w1 at q hHeld ⊢
  exact hK.out _ _ hHeld fun hHeld=>k13 w1 g hHeld q
 ·go_simp
  refine (h4.out _).mono ?_
  rintro e w1 ⟨rfl,hbw⟩
  exact hK.out _ _ (six_kept (Nat.le_refl _) hbw hHeld) fun hHeld=>k04 w1 hHeld
 intro W hHeld
 refine rd 3 (some 7) rfl (fun K hK=>?_)
 go_simp
 have q:=alloc_cell W (.int .u8 1) 5
 have hHeld:=six_alloc (Nat.le_refl _) hHeld (.cells #[.int .u8 1] 5)
 generalize W.heap.size=g at q ⊢
 generalize World.alloc _ _=w1 at q hHeld ⊢
 exact hK.out _ _ hHeld fun hHeld=>k14 w1 g hHeld q
 intro W g hHeld q
 refine rd2 4 (some 8) 8 (some 12) rfl rfl (fun K hK=>?_) (fun K hK=>?_)
 ·have hq:=conv_at _ _ _ q
  go_simp
  refine hK.out _ _ hHeld fun hHeld=>?_
  clear hK K hq
  exact k20 W g hHeld trivial
 ·go_simp
  refine (h1.out _).mono ?_
  rintro e w1 ⟨rfl,hbw⟩
  exact hK.out _ _ (six_kept (Nat.le_refl _) hbw hHeld) fun hHeld=>k11 w1 g hHeld ((hbw.cell (block_lt_of_cell q)).trans q)
 intro W g hHeld q
 refine rd2 4 (some 8) 13 (some 17) rfl rfl (fun K hK=>?_) (fun K hK=>?_)
 ·have hq:=conv_at _ _ _ q
  go_simp
  refine hK.out _ _ hHeld fun hHeld=>?_
  clear hK K hq
  refine tkx 9 13 t1 ?_
  exact k21 W g hHeld trivial
 ·go_simp
  refine (h2.out _).mono ?_
  rintro e w1 ⟨rfl,hbw⟩
  exact hK.out _ _ (six_kept (Nat.le_refl _) hbw hHeld) fun hHeld=>k12 w1 g hHeld ((hbw.cell (block_lt_of_cell q)).trans q)
 intro W g hHeld q
 refine rd2 4 (some 8) 18 (some 22) rfl rfl (fun K hK=>?_) (fun K hK=>?_)
 ·have hq:=conv_at _ _ _ q
  go_simp
  refine hK.out _ _ hHeld fun hHeld=>?_
  clear hK K hq
  refine tkx 9 13 t1 ?_
  refine tkx 14 18 t2 ?_
  exact k22 W g hHeld trivial
 ·go_simp
  refine (h3.out _).mono ?_
  rintro e w1 ⟨rfl,hbw⟩
  exact hK.out _ _ (six_kept (Nat.le_refl _) hbw hHeld) fun hHeld=>k13 w1 g hHeld ((hbw.cell (block_lt_of_cell q)).trans q)
 intro W g hHeld q
 refine rd2 4 (some 8) 22 (some 26) rfl rfl (fun K hK=>?_) (fun K hK=>?_)
 ·have hq:=conv_at _ _ _ q
  go_simp
  refine hK.out _ _ hHeld fun hHeld=>?_
  clear hK K hq
  refine tkx 9 13 t1 ?_
  refine tkx 14 18 t2 ?_
  refine tkx 19 23 t3 ?_
  exact k23 W g hHeld trivial
 ·go_simp
  refine (h4.out _).mono ?_
  rintro e w1 ⟨rfl,hbw⟩
  exact hK.out _ _ (six_kept (Nat.le_refl _) hbw hHeld) fun hHeld=>k14 w1 g hHeld ((hbw.cell (block_lt_of_cell q)).trans q)
 intro W g hHeld q
 refine rd 4 (some 8) rfl (fun K hK=>?_)
 have hq:=conv_at _ _ _ q
 go_simp
 refine hK.out _ _ hHeld fun hHeld=>?_
 clear hK K hq
 refine tkx 9 13 t1 ?_
 refine tkx 14 18 t2 ?_
 refine tkx 19 23 t3 ?_
 refine tkx 23 27 t4 ?_
 exact k24 W g hHeld trivial
 intro W g hHeld _
 refine rd 8 (some 12) rfl (fun K hK=>?_)
 go_simp
 refine (h1.out _).mono ?_
 rintro e w1 ⟨rfl,hbw⟩
 refine hK.out _ _ (six_kept (Nat.le_refl _) hbw hHeld) fun hHeld=>?_
 clear hK K
 refine tkx 9 13 t1 ?_
 exact k21 w1 g hHeld trivial
 intro W g hHeld _
 refine rd 13 (some 17) rfl (fun K hK=>?_)
 go_simp
 refine (h2.out _).mono ?_
 rintro e w1 ⟨rfl,hbw⟩
 refine hK.out _ _ (six_kept (Nat.le_refl _) hbw hHeld) fun hHeld=>?_
 clear hK K
 refine tkx 14 18 t2 ?_
 exact k22 w1 g hHeld trivial
 intro W g hHeld _
 refine rd 18 (some 22) rfl (fun K hK=>?_)
 go_simp
 refine (h3.out _).mono ?_
 rintro e w1 ⟨rfl,hbw⟩
 refine hK.out _ _ (six_kept (Nat.le_refl _) hbw hHeld) fun hHeld=>?_
 clear hK K
 refine tkx 19 23 t3 ?_
 exact k23 w1 g hHeld trivial
 intro W g hHeld _
 refine rd 22 (some 26) rfl (fun K hK=>?_)
 go_simp
 refine (h4.out _).mono ?_
 rintro e w1 ⟨rfl,hbw⟩
 refine hK.out _ _ (six_kept (Nat.le_refl _) hbw hHeld) fun hHeld=>?_
 clear hK K
 refine tkx 23 27 t4 ?_
 exact k24 w1 g hHeld trivial
 intro W g hHeld _
 refine rdg 24 (some 3) ?_
 refine wdn ?_
 obtain ⟨hBz,z0,z1,z2,z3,z4,z5⟩:=hHeld
 have hss:=fun W=>@run_string_add_sum Tryz.prog W (strOfNums [1]++v1++v2++v3++v4) v5 n5
 go_wp2_with ((go_at_call 73;refine (h5.out _).mono ?_;rintro e w3 ⟨rfl,hb3⟩))
 go_ret
 exact ⟨rfl,hBz.trans (hb3.mono hBz.size)⟩
theorem bytes_del (cl ck st rf ch:Int) (v1 v2 v3 v4:ByteArray) (h1:Hid (∀ W,Calls Tryz.prog 73 #[.int .u64 cl] W fun e w'=>e=.returned (.string v1)∧Below W.heap.size W w')) (h2:Hid (∀ W,Calls Tryz.prog 73 #[.int .u64 ck] W fun e w'=>e=.returned (.string v2)∧Below W.heap.size W w')) (h3:Hid (∀ W,Calls Tryz.prog 73 #[.int .u64 st] W fun e w'=>e=.returned (.string v3)∧Below W.heap.size W w')) (h4:Hid (∀ W,Calls Tryz.prog 73 #[.int .u64 rf] W fun e w'=>e=.returned (.string v4)∧Below W.heap.size W w')) (s1:v1.size≤10) (s2:v2.size≤10) (s3:v3.size≤10) (s4:v4.size≤10) (x1:IntKind.u64.wrap cl=cl) (x2:IntKind.u64.wrap ck=ck) (x3:IntKind.u64.wrap st=st) (w:World) :
  Calls Tryz.prog 74 #[.agg #[.int .i64 2,.int .u32 cl,.int .u32 ck,.int .u32 st,.int .u64 rf,.int .i32 ch]] w fun e w'=>e=.returned (.string (strOfNums [2]++v1++v2++v3++v4))∧Below w.heap.size w w':=by
 have y1:IntKind.u8.wrap 2=2:=rfl
 have n0:(strOfNums [2]).size=1:=strOfNums_size [2]
 have n1:(strOfNums [2]).size+v1.size≤9223372036854775807:=by omega
 have n2:(strOfNums [2]++v1).size+v2.size≤9223372036854775807:=by simp only [ByteArray.size_append];omega
 have n3:(strOfNums [2]++v1++v2).size+v3.size≤9223372036854775807:=by simp only [ByteArray.size_append];omega
 have n4:(strOfNums [2]++v1++v2++v3).size+v4.size≤9223372036854775807:=by simp only [ByteArray.size_append];omega
 clear n0
 have c0:(w.alloc (.cells #[.int .i64 2,.int .u32 cl,.int .u32 ck,.int .u32 st,.int .u64 rf,.int .i32 ch] 43)).cell? ⟨w.heap.size,0,none⟩=some (.int .i64 2):=(cell_of_row _ _ _ _ _ _ (heap_alloc_new w _)).trans rfl
 have c1:(w.alloc (.cells #[.int .i64 2,.int .u32 cl,.int .u32 ck,.int .u32 st,.int .u64 rf,.int .i32 ch] 43)).cell? ⟨w.heap.size,1,none⟩=some (.int .u32 cl):=(cell_of_row _ _ _ _ _ _ (heap_alloc_new w _)).trans rfl
 have c2:(w.alloc (.cells #[.int .i64 2,.int .u32 cl,.int .u32 ck,.int .u32 st,.int .u64 rf,.int .i32 ch] 43)).cell? ⟨w.heap.size,2,none⟩=some (.int .u32 ck):=(cell_of_row _ _ _ _ _ _ (heap_alloc_new w _)).trans rfl
 have c3:(w.alloc (.cells #[.int .i64 2,.int .u32 cl,.int .u32 ck,.int .u32 st,.int .u64 rf,.int .i32 ch] 43)).cell? ⟨w.heap.size,3,none⟩=some (.int .u32 st):=(cell_of_row _ _ _ _ _ _ (heap_alloc_new w _)).trans rfl
 have c4:(w.alloc (.cells #[.int .i64 2,.int .u32 cl,.int .u32 ck,.int .u32 st,.int .u64 rf,.int .i32 ch] 43)).cell? ⟨w.heap.size,4,none⟩=some (.int .u64 rf):=(cell_of_row _ _ _ _ _ _ (heap_alloc_new w _)).trans rfl
 have c5:(w.alloc (.cells #[.int .i64 2,.int .u32 cl,.int .u32 ck,.int .u32 st,.int .u64 rf,.int .i32 ch] 43)).cell? ⟨w.heap.size,5,none⟩=some (.int .i32 ch):=(cell_of_row _ _ _ _ _ _ (heap_alloc_new w _)).trans rfl
 have hA:Below w.heap.size w (w.alloc (.cells #[.int .i64 2,.int .u32 cl,.int .u32 ck,.int .u32 st,.int .u64 rf,.int .i32 ch] 43)):=(Below.refl _ _).alloc (Nat.le_refl _) _
 have hst:=six_drew ⟨hA,c0,c1,c2,c3,c4,c5⟩
 clear hA c0 c1 c2 c3 c4 c5
 go_enter Tryz.func74,Tryz.ntmps74
 go_wp2
 refine wp_region_held_drew (S:=fun w'=>Below w.heap.size w w'∧w'.cell? ⟨w.heap.size,0,none⟩=some (.int .i64 2)∧w'.cell? ⟨w.heap.size,1,none⟩=some (.int .u32 cl)∧w'.cell? ⟨w.heap.size,2,none⟩=some (.int .u32 ck)∧w'.cell? ⟨w.heap.size,3,none⟩=some (.int .u32 st)∧w'.cell? ⟨w.heap.size,4,none⟩=some (.int .u64 rf)∧w'.cell? ⟨w.heap.size,5,none⟩=some (.int .i32 ch)) (by kernel_rfl) hst (fun hHeld=>?_)
 clear hst
 generalize World.drew _=wD at hHeld ⊢
 refine wF (fun _ h=>h.2) fun x1=>?_
 refine tkx 0 4 x1 ?_
 refine tkx 1 5 x1 ?_
 refine tkx 2 6 x1 ?_
 refine tkx 5 9 x1 ?_
 refine tkx 6 10 x1 ?_
 refine tkx 7 11 x1 ?_
 refine tkx 10 14 x1 ?_
 refine tkx 11 15 x1 ?_
 refine tkx 12 16 x1 ?_
 refine tkx 15 19 x1 ?_
 refine tkx 16 20 x1 ?_
 refine tkx 17 21 x1 ?_
 refine tkx 20 24 x1 ?_
 refine tkx 21 25 x1 ?_
 refine wF (fun w _=>@run_string_add_sum Tryz.prog w (strOfNums [2]) (v1) n1) fun t1=>?_
 refine wF (fun w _=>@run_string_add_sum Tryz.prog w (strOfNums [2]++v1) (v2) n2) fun t2=>?_
 refine wF (fun w _=>@run_string_add_sum Tryz.prog w (strOfNums [2]++v1++v2) (v3) n3) fun t3=>?_
 refine wF (fun w _=>@run_string_add_sum Tryz.prog w (strOfNums [2]++v1++v2++v3) (v4) n4) fun t4=>?_
 apply meet1 fun _ _=>True
 intro k24
 apply meet1 fun _ _=>True
 intro k23
 apply meet1 fun _ _=>True
 intro k22
 apply meet1 fun _ _=>True
 intro k21
 apply meet1 fun _ _=>True
 intro k20
 apply meet1 fun W g=>W.cell? ⟨g,0,none⟩=some (.int .u8 2)
 intro k14
 apply meet1 fun W g=>W.cell? ⟨g,0,none⟩=some (.int .u8 2)
 intro k13
 apply meet1 fun W g=>W.cell? ⟨g,0,none⟩=some (.int .u8 2)
 intro k12
 apply meet1 fun W g=>W.cell? ⟨g,0,none⟩=some (.int .u8 2)
 intro k11
 apply meet1 fun W g=>W.cell? ⟨g,0,none⟩=some (.int .u8 2)
 intro k10
 apply meet0
 intro k04
 apply meet0
 intro k03
 apply meet0
 intro k02
 apply meet0
 intro k01
 refine rd2 3 (some 7) 8 (some 12) rfl rfl (fun K hK=>?_) (fun K hK=>?_)
 ·go_simp
  have q:=alloc_cell wD (.int .u8 2) 5
  have hHeld:=six_alloc (Nat.le_refl _) hHeld (.cells #[.int .u8 2] 5)
  generalize wD.heap.size=g at q ⊢
  generalize World.alloc _ _=w1 at q hHeld ⊢
  exact hK.out _ _ hHeld fun hHeld=>k10 w1 g hHeld q
 ·go_simp
  refine (h1.out _).mono ?_
  rintro e w1 ⟨rfl,hbw⟩
  exact hK.out _ _ (six_kept (Nat.le_refl _) hbw hHeld) fun hHeld=>k01 w1 hHeld
 intro W hHeld
 refine rd2 3 (some 7) 13 (some 17) rfl rfl (fun K hK=>?_) (fun K hK=>?_)
 ·go_simp
  have q:=alloc_cell W (.int .u8 2) 5
  have hHeld:=six_alloc (Nat.le_refl _) hHeld (.cells #[.int .u8 2] 5)
  generalize W.heap.size=g at q ⊢
  generalize World.alloc _ _=w1 at q hHeld ⊢
  exact hK.out _ _ hHeld fun hHeld=>k11 w1 g hHeld q
 ·go_simp
  refine (h2.out _).mono ?_
  rintro e w1 ⟨rfl,hbw⟩
  exact hK.out _ _ (six_kept (Nat.le_refl _) hbw hHeld) fun hHeld=>k02 w1 hHeld
 intro W hHeld
 refine rd2 3 (some 7) 18 (some 22) rfl rfl (fun K hK=>?_) (fun K hK=>?_)
 ·go_simp
  have q:=alloc_cell W (.int .u8 2) 5
  have hHeld:=six_alloc (Nat.le_refl _) hHeld (.cells #[.int .u8 2] 5)
  generalize W.heap.size=g at q ⊢
  generalize World.alloc _ _=w1 at q hHeld ⊢
  exact hK.out _ _ hHeld fun hHeld=>k12 w1 g hHeld q
 ·go_simp
  refine (h3.out _).mono ?_
  rintro e w1 ⟨rfl,hbw⟩
  exact hK.out _ _ (six_kept (Nat.le_refl _) hbw hHeld) fun hHeld=>k03 w1 hHeld
 intro W hHeld
 refine rd2 3 (some 7) 22 (some 26) rfl rfl (fun K hK=>?_) (fun K hK=>?_)
 ·go_simp
  have q:=alloc_cell W (.int .u8 2) 5
  have hHeld:=six_alloc (Nat.le_refl _) hHeld (.cells #[.int .u8 2] 5)
  generalize W.heap.size=g at q ⊢
  generalize World.alloc _ _=w1 at q hHeld ⊢
  exact hK.out _ _ hHeld fun hHeld=>k13 w1 g hHeld q
 ·go_simp
  refine (h4.out _).mono ?_
  rintro e w1 ⟨rfl,hbw⟩
  exact hK.out _ _ (six_kept (Nat.le_refl _) hbw hHeld) fun hHeld=>k04 w1 hHeld
 intro W hHeld
 refine rd 3 (some 7) rfl (fun K hK=>?_)
 go_simp
 have q:=alloc_cell W (.int .u8 2) 5
 have hHeld:=six_alloc (Nat.le_refl _) hHeld (.cells #[.int .u8 2] 5)
 generalize W.heap.size=g at q ⊢
 generalize World.alloc _ _=w1 at q hHeld ⊢
 exact hK.out _ _ hHeld fun hHeld=>k14 w1 g hHeld q
 intro W g hHeld q
 refine rd2 4 (some 8) 8 (some 12) rfl rfl (fun K hK=>?_) (fun K hK=>?_)
 ·have hq:=conv_at _ _ _ q
  go_simp
  refine hK.out _ _ hHeld fun hHeld=>?_
  clear hK K hq
  exact k20 W g hHeld trivial
 ·go_simp
  refine (h1.out _).mono ?_
  rintro e w1 ⟨rfl,hbw⟩
  exact hK.out _ _ (six_kept (Nat.le_refl _) hbw hHeld) fun hHeld=>k11 w1 g hHeld ((hbw.cell (block_lt_of_cell q)).trans q)
 intro W g hHeld q
 refine rd2 4 (some 8) 13 (some 17) rfl rfl (fun K hK=>?_) (fun K hK=>?_)
 ·have hq:=conv_at _ _ _ q
  go_simp
  refine hK.out _ _ hHeld fun hHeld=>?_
  clear hK K hq
  refine tkx 9 13 t1 ?_
  exact k21 W g hHeld trivial
 ·go_simp
  refine (h2.out _).mono ?_
  rintro e w1 ⟨rfl,hbw⟩
  exact hK.out _ _ (six_kept (Nat.le_refl _) hbw hHeld) fun hHeld=>k12 w1 g hHeld ((hbw.cell (block_lt_of_cell q)).trans q)
 intro W g hHeld q
 refine rd2 4 (some 8) 18 (some 22) rfl rfl (fun K hK=>?_) (fun K hK=>?_)
 ·have hq:=conv_at _ _ _ q
  go_simp
  refine hK.out _ _ hHeld fun hHeld=>?_
  clear hK K hq
  refine tkx 9 13 t1 ?_
  refine tkx 14 18 t2 ?_
  exact k22 W g hHeld trivial
 ·go_simp
  refine (h3.out _).mono ?_
  rintro e w1 ⟨rfl,hbw⟩
  exact hK.out _ _ (six_kept (Nat.le_refl _) hbw hHeld) fun hHeld=>k13 w1 g hHeld ((hbw.cell (block_lt_of_cell q)).trans q)
 intro W g hHeld q
 refine rd2 4 (some 8) 22 (some 26) rfl rfl (fun K hK=>?_) (fun K hK=>?_)
 ·have hq:=conv_at _ _ _ q
  go_simp
  refine hK.out _ _ hHeld fun hHeld=>?_
  clear hK K hq
  refine tkx 9 13 t1 ?_
  refine tkx 14 18 t2 ?_
  refine tkx 19 23 t3 ?_
  exact k23 W g hHeld trivial
 ·go_simp
  refine (h4.out _).mono ?_
  rintro e w1 ⟨rfl,hbw⟩
  exact hK.out _ _ (six_kept (Nat.le_refl _) hbw hHeld) fun hHeld=>k14 w1 g hHeld ((hbw.cell (block_lt_of_cell q)).trans q)
 intro W g hHeld q
 refine rd 4 (some 8) rfl (fun K hK=>?_)
 have hq:=conv_at _ _ _ q
 go_simp
 refine hK.out _ _ hHeld fun hHeld=>?_
 clear hK K hq
 refine tkx 9 13 t1 ?_
 refine tkx 14 18 t2 ?_
 refine tkx 19 23 t3 ?_
 refine tkx 23 27 t4 ?_
 exact k24 W g hHeld trivial
 intro W g hHeld _
 refine rd 8 (some 12) rfl (fun K hK=>?_)
 go_simp
 refine (h1.out _).mono ?_
 rintro e w1 ⟨rfl,hbw⟩
 refine hK.out _ _ (six_kept (Nat.le_refl _) hbw hHeld) fun hHeld=>?_
 clear hK K
 refine tkx 9 13 t1 ?_
 exact k21 w1 g hHeld trivial
 intro W g hHeld _
 refine rd 13 (some 17) rfl (fun K hK=>?_)
 go_simp
 refine (h2.out _).mono ?_
 rintro e w1 ⟨rfl,hbw⟩
 refine hK.out _ _ (six_kept (Nat.le_refl _) hbw hHeld) fun hHeld=>?_
 clear hK K
 refine tkx 14 18 t2 ?_
 exact k22 w1 g hHeld trivial
 intro W g hHeld _
 refine rd 18 (some 22) rfl (fun K hK=>?_)
 go_simp
 refine (h3.out _).mono ?_
 rintro e w1 ⟨rfl,hbw⟩
 refine hK.out _ _ (six_kept (Nat.le_refl _) hbw hHeld) fun hHeld=>?_
 clear hK K
 refine tkx 19 23 t3 ?_
 exact k23 w1 g hHeld trivial
 intro W g hHeld _
 refine rd 22 (some 26) rfl (fun K hK=>?_)
 go_simp
 refine (h4.out _).mono ?_
 rintro e w1 ⟨rfl,hbw⟩
 refine hK.out _ _ (six_kept (Nat.le_refl _) hbw hHeld) fun hHeld=>?_
 clear hK K
 refine tkx 23 27 t4 ?_
 exact k24 w1 g hHeld trivial
 intro W g hHeld _
 refine rdg 24 (some 3) ?_
 refine wdn ?_
 obtain ⟨hBz,z0,z1,z2,z3,z4,z5⟩:=hHeld
 go_wp2
 go_ret
 exact ⟨rfl,hBz⟩
end Go.Proofs.YtgccjefbedpmpaaGreatDoor

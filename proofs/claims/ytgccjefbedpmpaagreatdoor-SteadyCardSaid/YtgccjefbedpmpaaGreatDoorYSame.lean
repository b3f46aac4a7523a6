import Derived.Test.YtgccjefbedpmpaaGreatDoorYByts
import Derived.Maps.AppendAt
namespace Go.Proofs.YtgccjefbedpmpaaGreatDoor
open Go.RowKit
set_option maxRecDepth 100000
set_option maxHeartbeats 8000000
theorem below1' (W:World) (o:Obj):Below W.heap.size W (W.alloc o):=(Below.refl _ _).alloc (Nat.le_refl _) o
def Opn.key (o:Opn):Int:=o.cl*1048576+o.ck
def Opn.ok (o:Opn):Bool:=okOp o.kd o.cl o.ck o.st o.rf o.ch
theorem okOp_w {o:Opn} (h:o.ok=true) (h0:0≤o.rf):OpW o:=by
 obtain ⟨k,cl,ck,st,rf,ch⟩:=o
 unfold Opn.ok okOp at h
 dsimp only at h h0
 simp only [Bool.and_eq_true,decide_eq_true_eq] at h
 obtain ⟨⟨⟨⟨⟨⟨⟨h1,h2⟩,h3⟩,h4⟩,h5⟩,h6⟩,_⟩,h8⟩:=h
 have hrf:okKey rf=true∨rf=0→rf≤1099511627775:=fun e=>by
  rcases e with e|e
  ·unfold okKey at e
   simp only [Bool.and_eq_true,decide_eq_true_eq] at e
   omega
  ·omega
 split at h8
 ·rename_i e
  subst e
  simp only [Bool.and_eq_true,Bool.or_eq_true,decide_eq_true_eq] at h8
  unfold okChar at h8
  simp only [Bool.and_eq_true,decide_eq_true_eq] at h8
  exact ⟨by dsimp only;omega,by dsimp only;omega,by dsimp only;omega,by dsimp only;omega,⟨h0,hrf h8.2⟩,⟨by dsimp only;omega,h8.1.1.2,fun e=>absurd rfl e⟩⟩
 ·simp only [Bool.and_eq_true,decide_eq_true_eq] at h8
  exact ⟨by dsimp only;omega,by dsimp only;omega,by dsimp only;omega,by dsimp only;omega,⟨h0,hrf (Or.inl h8.1.2)⟩,⟨by dsimp only;omega,by dsimp only;omega,fun _=>h8.2⟩⟩
def OwnB (w:World) (B:Nat) (v:Value) (l:List Int):Prop:=w.ownsRow B 5 1 v l.length (u8s l)
theorem rnd_congr {k x:Int} {s s':Nat→Int} (h:∀ j,j<8→s j=s' j) (j:Nat):rnd k x s j=rnd k x s' j:=by
 have h0:=h 0 (by decide);have h1:=h 1 (by decide);have h2:=h 2 (by decide);have h3:=h 3 (by decide)
 have h4:=h 4 (by decide);have h5:=h 5 (by decide);have h6:=h 6 (by decide);have h7:=h 7 (by decide)
 match j with
 | 0=>simp only [rnd,h0,h1,h2,h4,h5,h6,h7]
 | 1=>exact h0
 | 2=>exact h1
 | 3=>exact h2
 | 4=>simp only [rnd,h3,h4,h5,h6,h7]
 | 5=>exact h4
 | 6=>exact h5
 | _+7=>exact h6
theorem stt_congr {K K' X X':Nat→Int} {s s':Nat→Int} (n:Nat) (hK:∀ j,j<n→K j=K' j) (hX:∀ j,j<n→X j=X' j) (h:∀ j,j<8→s j=s' j):∀ j,j<8→stt K X s n j=stt K' X' s' n j:=by
 induction n with
 | zero=>exact h
 | succ n ih=>
  intro j _
  rw [stt,stt,hK n (by omega),hX n (by omega)]
  exact rnd_congr (ih (fun j hj=>hK j (by omega)) (fun j hj=>hX j (by omega))) j
theorem blk_congr {K K' X X':Nat→Int} {s s':Nat→Int} (hK:∀ j,j<64→K j=K' j) (hX:∀ j,X j=X' j) (h:∀ j,j<8→s j=s' j):∀ j,j<8→blk K X s j=blk K' X' s' j:=fun j hj=>by
 unfold blk
 rw [stt_congr 64 hK (fun j _=>hX j) h j hj,h j hj]
theorem blks_congr {K K' m m' s s':Nat→Int} (n:Nat) (hK:∀ j,j<64→K j=K' j) (hm:∀ i,i<64*n→m i=m' i) (h:∀ j,j<8→s j=s' j):∀ j,j<8→blks K m s n j=blks K' m' s' n j:=by
 induction n with
 | zero=>exact h
 | succ n ih=>exact blk_congr hK (sch_congr fun i hi=>hm _ (by omega)) (ih fun i hi=>hm i (by omega))
theorem blks_add (K m s:Nat→Int) (a b:Nat):blks K m s (a+b)=blks K (fun i=>m (64*a+i)) (blks K m s a) b:=by
 induction b with
 | zero=>rfl
 | succ b ih=>
  rw [← Nat.add_assoc,blks,blks,ih]
  have e:(fun i=>m (64*(a+b)+i))=fun i=>m (64*a+(64*b+i)):=by funext i;congr 1;omega
  rw [e]
def dl (s:ByteArray):List Int:=s.data.toList.map fun b=>(b.toNat:Int)
theorem mB_dl (s:ByteArray) (i:Nat):mB s i=(dl s)[i]?.getD 0:=by
 unfold mB dl
 rw [List.getElem?_map]
 cases s.data.toList[i]?<;>rfl
theorem dl_length (s:ByteArray):(dl s).length=s.size:=by simp [dl]
theorem dl_append (a b:ByteArray):dl (a++b)=dl a++dl b:=by
 unfold dl
 rw [ByteArray.data_append,Array.toList_append,List.map_append]
theorem dl_one (x:Int) (h:0≤x∧x<256):dl (strOfNums [x])=[x]:=by
 have:(x.toNat % 256:Nat)=x.toNat:=by omega
 simp [dl,strOfNums,UInt8.toNat_ofNat',this]
 omega
theorem dl_padZ (s:ByteArray) (z:Nat):dl (padZ s z)=pre (dl s) z:=by
 induction z with
 | zero=>rw [padZ,dl_append];simp [pre,dl]
 | succ z ih=>rw [padZ,dl_append,ih];simp [pre,dl,List.replicate_succ']
theorem dl_padN (P:ByteArray) (n:Int) (k:Nat):dl (padN P n k)=dl P++be8 n k:=by
 induction k with
 | zero=>simp [padN,be8]
 | succ k ih=>
  rw [padN,dl_append,ih,dl_one _ (by omega),List.append_assoc]
  simp [be8,List.range_succ]
theorem dl_padM {s:ByteArray} {q r:Nat} (hs:s.size=64*q+r):dl (padM s)=(dl s).take (64*q)++tailL (mB s) q r:=by
 have hz:zer s.size=zer r:=by unfold zer;rw [hs];omega
 have hd:(List.range r).map (fun i=>mB s (64*q+i))=(dl s).drop (64*q):=by
  apply List.ext_getElem?
  intro i
  by_cases hi:i<r
  ·have hl:64*q+i<(dl s).length:=by rw [dl_length];omega
   rw [List.getElem?_drop,List.getElem?_map,List.getElem?_range hi,List.getElem?_eq_getElem hl]
   simp [mB_dl,hl]
  ·rw [List.getElem?_eq_none (by simp;omega),List.getElem?_eq_none (by simp [dl_length];omega)]
 unfold padM tailL
 rw [dl_padN,dl_padZ,hd,hz,hs]
 unfold pre
 rw [← List.append_assoc,← List.append_assoc,← List.append_assoc,List.take_append_drop]
theorem padM_tail {s:ByteArray} {q r:Nat} (hs:s.size=64*q+r) (i:Nat):mB (padM s) (64*q+i)=(tailL (mB s) q r).getD i 0:=by
 have hl:((dl s).take (64*q)).length=64*q:=by rw [List.length_take,dl_length];omega
 rw [mB_dl,dl_padM hs,List.getElem?_append_right (by omega),hl,show 64*q+i-64*q=i by omega,List.getD_eq_getElem?_getD]
theorem padM_head {s:ByteArray} {q r:Nat} (hs:s.size=64*q+r) {i:Nat} (hi:i<64*q):mB (padM s) i=mB s i:=by
 have hl:((dl s).take (64*q)).length=64*q:=by rw [List.length_take,dl_length];omega
 rw [mB_dl,mB_dl,dl_padM hs,List.getElem?_append_left (by omega),List.getElem?_take_of_lt hi]
theorem sum_same {s:ByteArray} {q r:Nat} (hs:s.size=64*q+r) {K:Nat→Int} (hK:∀ j,j<64→K j=KK j):∀ n,n<32→outB (shaOf K (mB s) q r) n=outB (blks KK (mB (padM s)) RV (nblk s.size)) n:=by
 intro n hn
 have hb:nblk s.size=q+nbk r:=by
  have hz:zer s.size=zer r:=by unfold zer;rw [hs];omega
  have:=nbk_len r
  unfold nblk;rw [hz,hs];omega
 unfold outB
 rw [hb,blks_add]
 unfold shaOf
 have h0:∀ j,j<8→H0 j=RV j:=fun j hj=>by unfold RV;rw [if_pos hj]
 have h1:=blks_congr q hK (fun i hi=>(padM_head hs (q:=q) (r:=r) hi).symm) h0
 rw [blks_congr (nbk r) hK (fun i _=>(padM_tail hs i).symm) h1 (n / 4) (by omega)]
def dig (s:ByteArray) (n:Nat):Int:=outB (blks KK (mB (padM s)) RV (nblk s.size)) n
theorem son_app (a b:List Int):strOfNums (a++b)=strOfNums a++strOfNums b:=by
 apply ByteArray.ext
 rw [ByteArray.data_append]
 simp [strOfNums]
theorem vb_vn (k:Nat):∀ n,n≤k→vb n=strOfNums (vn n):=by
 induction k with
 | zero=>intro n h;rw [vb_lt (by omega),vn_lt (by omega)]
 | succ k ih=>
  intro n h
  by_cases hn:n<128
  ·rw [vb_lt hn,vn_lt hn]
  ·rw [vb_ge hn,vn_ge hn,ih (n / 128) (by omega),← son_app];rfl
theorem vb_eq (n:Nat):vb n=strOfNums (vn n):=vb_vn n n (Nat.le_refl _)
theorem dl_son {l:List Int} (h:Byt l):dl (strOfNums l)=l:=by
 unfold dl
 rw [strOfNums_data,List.map_map]
 refine (List.map_congr_left fun x hx=>?_).trans (List.map_id _)
 obtain ⟨h0,h1⟩:=h x hx
 have:(UInt8.ofNat x.toNat).toNat=x.toNat:=by
  rw [UInt8.toNat_ofNat'];omega
 show ((UInt8.ofNat x.toNat).toNat:Int)=x
 rw [this,Int.toNat_of_nonneg h0]
def chk (s:ByteArray):List Int:=[dig s 0,dig s 1,dig s 2]
theorem mB_son {l:List Int} (h:Byt l) {i:Nat} (hi:i<l.length):mB (strOfNums l) i=l[i]:=by
 rw [mB_dl,dl_son h,List.getElem?_eq_getElem hi];rfl
theorem mB_r (s:ByteArray) (i:Nat):0≤mB s i∧mB s i≤255:=by
 unfold mB;have:=(s.data.toList[i]?.getD 0).toNat_lt;omega
theorem shaB (b off cap:Nat) (l:List Int) (hl:Byt l) (w:World) (hg:11<w.heap.size) (hK:∀ j,j<64→w.cell? ⟨11,j,none⟩=some (.int .u32 (KK j))) (hc:∀ i (h:i<l.length),w.cell? ⟨b,off+i,none⟩=some (.int .u8 l[i])) (hb:b<w.heap.size) (hn:l.length≤140737488355328) (hcap:l.length≤cap) :
  Calls Tryz.prog 117 #[.slice (some ⟨b,off,none⟩) l.length cap] w fun e w'=>e=.returned (.agg (rowOf 32 fun n=>.int .u8 (dig (strOfNums l) n)))∧Below w.heap.size w w':=by
 have e:l.length=64*(l.length / 64)+l.length % 64:=by omega
 have es:(strOfNums l).size=64*(l.length / 64)+l.length % 64:=by rw [strOfNums_size];exact e
 by_cases hne:cap=64*(l.length / 64)
 ·have hr:l.length % 64=0:=by omega
  have h:=sum_eq b off (l.length / 64) KK (mB (strOfNums l)) w hg hK (mB_r _) (fun i hi=>by rw [mB_son hl (show i<l.length by omega)];exact hc i (by omega)) hb (by omega)
  have e2:64*(l.length / 64)=l.length:=by omega
  rw [e2] at h
  obtain rfl:cap=l.length:=by omega
  refine h.mono ?_
  rintro x w' ⟨rfl,hb⟩
  rw [hr] at es
  exact ⟨by rw [rowOf_congr fun j hj=>by rw [sum_same es (fun _ _=>rfl) j hj]];rfl,hb⟩
 ·have h:=sum_ne b off cap (l.length / 64) (l.length % 64) KK (mB (strOfNums l)) w hg hK (mB_r _) (fun i hi=>by rw [mB_son hl (show i<l.length by omega)];exact hc i (by omega)) hb (by omega) (by omega) (by omega) hne
  rw [← e] at h
  refine h.mono ?_
  rintro x w' ⟨rfl,hb⟩
  exact ⟨by rw [rowOf_congr fun j hj=>by rw [sum_same es (fun _ _=>rfl) j hj]];rfl,hb⟩
theorem rsumOf_size (s:ByteArray):(rsumOf s).size=32:=by
 unfold rsumOf;rw [strOfNums_size];simp [outL]
theorem short_any (s:ByteArray) (hs:s.size≤140737488355328) (w:World):Calls Tryz.prog 75 #[.agg (rowOf 72 fun j=>.int .u32 (RV j)),.string s] w fun e w'=>e=.returned (.string ((rsumOf s).extract 0 3))∧Below w.heap.size w w':=by
 have h32:=rsumOf_size s
 go_enter Tryz.func75,Tryz.ntmps75
 have HR:Hid ((w.alloc (.cells (rowOf 72 fun j=>.int .u32 (RV j)) 80)).rangeAt w.heap.size 0 (rowOf 72 fun j=>.int .u32 (RV j)).toList):=range72 (RowIs.new _ _ _ _)
 go_wp2_with (first
  | (refine wpList_load_mid rfl 80 (.tmp 2) rfl w.heap.size 0 rfl _ _ HR.out Tryz.underlying80 rfl (by rw [Array.length_toList,rowOf_size];exact info30) ?_;simp only [Array.toArray_toList])
  | (go_at_call 125;refine (rsum_any s hs _).mono ?_;rintro e w1 ⟨rfl,hb1⟩;generalize hRR:rsumOf s=R at h32 ⊢;have HRR:Hid (rsumOf s=R):=hRR;clear hRR))
 go_ret
 exact ⟨by rw [HRR.out];rfl,((Below.refl _ _).alloc (Nat.le_refl _) _).trans (hb1.mono (by simp))⟩
theorem short_w (s:ByteArray) (hs:s.size≤140737488355328) (w:World):Calls Tryz.prog 75 #[.agg (rowOf 72 fun j=>.int .u32 (RV j)),.string s] w fun e w'=>(∃ b:ByteArray,e=.returned (.string b)∧b.size≤3)∧Below w.heap.size w w':=by
 refine (short_any s hs w).mono ?_
 rintro e w' ⟨rfl,hb⟩
 exact ⟨⟨_,rfl,by rw [ByteArray.size_extract];omega⟩,hb⟩
theorem conv3 (W:World) (g:Nat) (h4:W.cell? ⟨g,4,none⟩=some (.int .u8 0)) (h5:W.cell? ⟨g,5,none⟩=some (.int .u8 0)) (h6:W.cell? ⟨g,6,none⟩=some (.int .u8 0)):(convert 59 9 (.slice (some ⟨g,4,none⟩) 3 3)).run Tryz.prog W=.ok (.string (strOfNums [0,0,0])) W:=
 run_convert_bytes_arg W 59 5 Tryz.underlying59 Tryz.underlying5 g 4 3 3 [0,0,0] rfl (fun i hi=>by
  match i,hi with
  | 0,_=>exact h4
  | 1,_=>exact h5
  | 2,_=>exact h6) _ Tryz.underlying9
theorem varint_w (x:Int) (h0:0≤x) (h1:x<18446744073709551616) (w:World) :
  Calls Tryz.prog 73 #[.int .u64 x] w fun e w'=>(∃ b:ByteArray,e=.returned (.string b)∧b.size≤10)∧Below w.heap.size w w':=by
 have h:=varint_any x.toNat (by omega) w
 rw [Int.toNat_of_nonneg h0] at h
 refine h.mono ?_
 rintro e w' ⟨rfl,hb⟩
 have:=vb_size 9 x.toNat (by omega)
 exact ⟨⟨_,rfl,by omega⟩,hb⟩
theorem size1 (x:Int):(strOfNums [x]).size≤10:=by rw [strOfNums_size];simp
theorem bytesA_w (w:World):Calls Tryz.prog 74 #[.agg #[.int .i64 1,.int .u32 1,.int .u32 1,.int .u32 1,.int .u64 0,.int .i32 97]] w fun e w'=>(∃ b:ByteArray,e=.returned (.string b)∧b.size≤100)∧Below w.heap.size w w':=by
 refine (bytes_gen 1 1 1 0 97 _ _ _ _ _ (fun W=>varint_small 1 (by decide) (by decide) W) (fun W=>varint_small 1 (by decide) (by decide) W) (fun W=>varint_small 1 (by decide) (by decide) W) (fun W=>varint_small 0 (by decide) (by decide) W) (fun W=>varint_small 97 (by decide) (by decide) W) (size1 _) (size1 _) (size1 _) (size1 _) (size1 _) rfl rfl rfl rfl w).mono ?_
 rintro e w' ⟨rfl,hb⟩
 exact ⟨⟨_,rfl,by simp only [ByteArray.size_append,strOfNums_size,List.length];omega⟩,hb⟩
theorem bytesB_w (w:World):Calls Tryz.prog 74 #[.agg #[.int .i64 1,.int .u32 1,.int .u32 2,.int .u32 2,.int .u64 1048577,.int .i32 98]] w fun e w'=>(∃ b:ByteArray,e=.returned (.string b)∧b.size≤100)∧Below w.heap.size w w':=by
 refine (bytes_gen 1 2 2 1048577 98 _ _ _ _ _ (fun W=>varint_small 1 (by decide) (by decide) W) (fun W=>varint_small 2 (by decide) (by decide) W) (fun W=>varint_small 2 (by decide) (by decide) W) (fun W=>varint_key W) (fun W=>varint_small 98 (by decide) (by decide) W) (size1 _) (size1 _) (size1 _) (by simp only [ByteArray.size_append,strOfNums_size,List.length];omega) (size1 _) rfl rfl rfl rfl w).mono ?_
 rintro e w' ⟨rfl,hb⟩
 exact ⟨⟨_,rfl,by simp only [ByteArray.size_append,strOfNums_size,List.length];omega⟩,hb⟩
structure PS (w w':World) (k s lo hi ops:Value):Prop where
 below:Below w.heap.size w w'
 roots:RowIs w' w.heap.size 80 72 fun j=>.int .u32 (RV j)
 cells:w'.cell? ⟨w.heap.size+1,0,none⟩=some (k)∧w'.cell? ⟨w.heap.size+1,1,none⟩=some (s)∧w'.cell? ⟨w.heap.size+1,2,none⟩=some (lo)∧w'.cell? ⟨w.heap.size+1,3,none⟩=some (hi)∧w'.cell? ⟨w.heap.size+1,4,none⟩=some (.int .u8 0)∧w'.cell? ⟨w.heap.size+1,5,none⟩=some (.int .u8 0)∧w'.cell? ⟨w.heap.size+1,6,none⟩=some (.int .u8 0)∧w'.cell? ⟨w.heap.size+1,7,none⟩=some (ops)
section
variable {w W w2 : World} {k s lo hi ops : Value}
theorem PS.kept (h:PS w W k s lo hi ops) (hb:Below W.heap.size W w2):PS w w2 k s lo hi ops:=
 ⟨h.below.trans (hb.mono h.below.size),h.roots.below hb h.roots.lt,(hb.cell (block_lt_of_cell h.cells.1)).trans h.cells.1,(hb.cell (block_lt_of_cell h.cells.2.1)).trans h.cells.2.1,(hb.cell (block_lt_of_cell h.cells.2.2.1)).trans h.cells.2.2.1,(hb.cell (block_lt_of_cell h.cells.2.2.2.1)).trans h.cells.2.2.2.1,(hb.cell (block_lt_of_cell h.cells.2.2.2.2.1)).trans h.cells.2.2.2.2.1,(hb.cell (block_lt_of_cell h.cells.2.2.2.2.2.1)).trans h.cells.2.2.2.2.2.1,(hb.cell (block_lt_of_cell h.cells.2.2.2.2.2.2.1)).trans h.cells.2.2.2.2.2.2.1,(hb.cell (block_lt_of_cell h.cells.2.2.2.2.2.2.2)).trans h.cells.2.2.2.2.2.2.2⟩
theorem PS.alloc (h:PS w W k s lo hi ops) (o:Obj):PS w (W.alloc o) k s lo hi ops:=h.kept ((Below.refl _ _).alloc (Nat.le_refl _) o)
theorem PS.drew (h:PS w W k s lo hi ops):PS w W.drew k s lo hi ops:=⟨h.below.drew,h.roots,h.cells⟩
theorem PS.start (w:World) (k s lo hi ops:Value):PS w ((w.alloc (.cells (rowOf 72 fun j=>.int .u32 (RV j)) 80)).alloc (.cells #[k,s,lo,hi,.int .u8 0,.int .u8 0,.int .u8 0,ops] 58)) k s lo hi ops:=by
 have hs:(w.alloc (.cells (rowOf 72 fun j=>.int .u32 (RV j)) 80)).heap.size=w.heap.size+1:=by simp
 have hc:=heap_alloc_new (w.alloc (.cells (rowOf 72 fun j=>.int .u32 (RV j)) 80)) (.cells #[k,s,lo,hi,.int .u8 0,.int .u8 0,.int .u8 0,ops] 58)
 rw [hs] at hc
 refine ⟨((Below.refl _ _).alloc (Nat.le_refl _) _).alloc (by simp) _,(RowIs.new w 80 72 _).below ((Below.refl _ _).alloc (Nat.le_refl _) _) (by simp),?_⟩
 exact ⟨(cell_of_row _ _ _ _ _ _ hc).trans rfl,(cell_of_row _ _ _ _ _ _ hc).trans rfl,(cell_of_row _ _ _ _ _ _ hc).trans rfl,(cell_of_row _ _ _ _ _ _ hc).trans rfl,(cell_of_row _ _ _ _ _ _ hc).trans rfl,(cell_of_row _ _ _ _ _ _ hc).trans rfl,(cell_of_row _ _ _ _ _ _ hc).trans rfl,(cell_of_row _ _ _ _ _ _ hc).trans rfl⟩
end
theorem pack1 (g:Nat) (w:World) (hrA:w.rangeAt g 0 [.int .i64 1,.int .u32 1,.int .u32 1,.int .u32 1,.int .u64 0,.int .i32 97]) (hrB:w.rangeAt g 6 [.int .i64 1,.int .u32 1,.int .u32 2,.int .u32 2,.int .u64 1048577,.int .i32 98]) (hg:g<w.heap.size):Calls Tryz.prog 42 #[.agg (rowOf 72 fun j=>.int .u32 (RV j)),.agg #[.int .i64 5,.int .u32 1,.int .u64 0,.int .u64 0,.int .u8 0,.int .u8 0,.int .u8 0,.slice (some ⟨g,0,none⟩) 2 2]] w fun e w'=>(∃ b:ByteArray,e=.returned (.tuple #[.string b,.int .i64 0])∧1≤b.size∧b.size≤1000)∧Below w.heap.size w w':=by
 have y1:IntKind.u8.wrap 5=5:=rfl
 have y2:IntKind.u64.wrap 1=1:=rfl
 have n1:(strOfNums [5]).size+(strOfNums [1]).size≤9223372036854775807:=by simp only [strOfNums_size,List.length];omega
 have hps:=PS.start w (.int .i64 5) (.int .u32 1) (.int .u64 0) (.int .u64 0) (.slice (some ⟨g,0,none⟩) 2 2)
 go_enter Tryz.func42,Tryz.ntmps42
 go_wp2_with (first
  | (go_at_call 72;refine (isFrame1 g _ (range_below hrA (((Below.refl w.heap.size w).alloc (Nat.le_refl _) _).alloc (by simp) _) hg) (range_below hrB (((Below.refl w.heap.size w).alloc (Nat.le_refl _) _).alloc (by simp) _) hg) (Nat.lt_of_lt_of_le hg (((Below.refl w.heap.size w).alloc (Nat.le_refl _) _).alloc (by simp) _).size)).mono ?_;rintro e w1 ⟨rfl,hb1⟩;have hp1:=hps.kept hb1;clear hps))
 refine wp_region_held_drew (S:=fun w'=>PS w w' (.int .i64 5) (.int .u32 1) (.int .u64 0) (.int .u64 0) (.slice (some ⟨g,0,none⟩) 2 2)) (by kernel_rfl) hp1.drew (fun hHeld=>?_)
 generalize World.drew _=wD at hHeld ⊢
 refine wF (fun _ h=>h.cells) fun x1=>?_
 refine tkx 0 14 x1 ?_
 refine tkx 1 15 x1 ?_
 refine tkx 2 16 x1 ?_
 refine tkx 5 19 x1 ?_
 refine tkx 6 20 x1 ?_
 refine tkx 7 21 x1 ?_
 refine wF (fun w _=>@run_string_add_sum Tryz.prog w (strOfNums [5]) (strOfNums [1]) n1) fun t1=>?_
 apply meet1 fun _ _=>True
 intro k21
 apply meet1 fun _ _=>True
 intro k20
 apply meet1 fun W gq=>W.cell? ⟨gq,0,none⟩=some (.int .u8 5)
 intro k11
 apply meet1 fun W gq=>W.cell? ⟨gq,0,none⟩=some (.int .u8 5)
 intro k10
 apply meet0
 intro k01
 refine rd2 3 (some 17) 8 (some 22) rfl rfl (fun K hK=>?_) (fun K hK=>?_)
 ·go_simp
  have q:=alloc_cell wD (.int .u8 5) 5
  have hHeld:=PS.alloc hHeld (.cells #[.int .u8 5] 5)
  generalize wD.heap.size=gq at q ⊢
  generalize World.alloc _ _=w1 at q hHeld ⊢
  exact hK.out _ _ hHeld fun hHeld=>k10 w1 gq hHeld q
 ·go_simp
  refine (varint_small 1 (by decide) (by decide) _).mono ?_
  rintro e w1 ⟨rfl,hbw⟩
  exact hK.out _ _ (hHeld.kept hbw) fun hHeld=>k01 w1 hHeld
 intro W hHeld
 refine rd 3 (some 17) rfl (fun K hK=>?_)
 go_simp
 have q:=alloc_cell W (.int .u8 5) 5
 have hHeld:=PS.alloc hHeld (.cells #[.int .u8 5] 5)
 generalize W.heap.size=gq at q ⊢
 generalize World.alloc _ _=w1 at q hHeld ⊢
 exact hK.out _ _ hHeld fun hHeld=>k11 w1 gq hHeld q
 intro W gq hHeld q
 refine rd2 4 (some 18) 8 (some 22) rfl rfl (fun K hK=>?_) (fun K hK=>?_)
 ·have hq:=conv_at _ _ _ q
  go_simp
  refine hK.out _ _ hHeld fun hHeld=>?_
  clear hK K hq
  exact k20 W gq hHeld trivial
 ·go_simp
  refine (varint_small 1 (by decide) (by decide) _).mono ?_
  rintro e w1 ⟨rfl,hbw⟩
  exact hK.out _ _ (hHeld.kept hbw) fun hHeld=>k11 w1 gq hHeld ((hbw.cell (block_lt_of_cell q)).trans q)
 intro W gq hHeld q
 refine rd 4 (some 18) rfl (fun K hK=>?_)
 have hq:=conv_at _ _ _ q
 go_simp
 refine hK.out _ _ hHeld fun hHeld=>?_
 clear hK K hq
 refine tkx 9 23 t1 ?_
 exact k21 W gq hHeld trivial
 intro W gq hHeld _
 refine rd 8 (some 22) rfl (fun K hK=>?_)
 go_simp
 refine (varint_small 1 (by decide) (by decide) _).mono ?_
 rintro e w1 ⟨rfl,hbw⟩
 refine hK.out _ _ (hHeld.kept hbw) fun hHeld=>?_
 clear hK K
 refine tkx 9 23 t1 ?_
 exact k21 w1 gq hHeld trivial
 intro W gq hHeld _
 refine rdg 10 (some 7) ?_
 refine wdn ?_
 generalize hv:strOfNums [5]++strOfNums [1]=v
 have hvs:v.size=2:=by rw [← hv];simp only [ByteArray.size_append,strOfNums_size,List.length]
 clear hv
 obtain ⟨wE,hwE⟩:∃ x,x=W:=⟨_,rfl⟩
 rw [← hwE] at hHeld ⊢
 clear hwE
 have hPE:=hHeld
 clear hHeld
 obtain ⟨c0,c1,c2,c3,c4,c5,c6,c7⟩:=hPE.cells
 have hcv:=conv_one
 have hss2:=fun W=>@run_string_add_sum Tryz.prog W v (strOfNums [2]) (by rw [strOfNums_size,hvs];decide)
 go_wp2
 have hPF:=hPE.alloc (.cells #[.int .u8 2] 5)
 have hu0:2≤(v++strOfNums [2]).size∧(v++strOfNums [2]).size≤3:=by rw [ByteArray.size_append,strOfNums_size,hvs];decide
 clear hPE c0 c1 c2 c3 c4 c5 c6 c7 hss2
 go_loopw [7,8] (fun sv i wr=>(∃ u:ByteArray,sv=.string u∧2≤u.size∧((i=.int .i64 0∧u.size≤3)∨(i=.int .i64 1∧u.size≤103)∨(i=.int .i64 2∧u.size≤203)))∧PS w wr (.int .i64 5) (.int .u32 1) (.int .u64 0) (.int .u64 0) (.slice (some ⟨g,0,none⟩) 2 2)) (fun _ i _=>2-(intOf i).toNat)
 case atStart=>exact ⟨⟨_,rfl,hu0.1,Or.inl ⟨rfl,hu0.2⟩⟩,hPF⟩
 case round=>
  obtain ⟨⟨u,rfl,hu2,hi⟩,hP⟩:=hrel
  clear hPF hu0
  obtain ⟨c0,c1,c2,c3,c4,c5,c6,c7⟩:=hP.cells
  rcases hi with ⟨rfl,hu⟩|⟨rfl,hu⟩|⟨rfl,hu⟩
  ·obtain ⟨r0,r1,r2,r3,r4,r5⟩:=cells0 (range_below hrA hP.below hg)
   go_wp2_with (first|(go_at_call 74;refine (bytesA_w _).mono ?_;rintro e w5 ⟨⟨b,rfl,hbs⟩,hb5⟩;have hss5:=fun W=>@run_string_add_sum Tryz.prog W u b (by omega)))
   go_roundw
   case rel=>exact ⟨⟨_,rfl,by rw [ByteArray.size_append];omega,Or.inr (Or.inl ⟨rfl,by rw [ByteArray.size_append];omega⟩)⟩,hP.kept hb5⟩
   case measure=>simp [intOf]
  ·obtain ⟨r0,r1,r2,r3,r4,r5⟩:=cells6 (range_below hrB hP.below hg)
   go_wp2_with (first|(go_at_call 74;refine (bytesB_w _).mono ?_;rintro e w5 ⟨⟨b,rfl,hbs⟩,hb5⟩;have hss5:=fun W=>@run_string_add_sum Tryz.prog W u b (by omega)))
   go_roundw
   case rel=>exact ⟨⟨_,rfl,by rw [ByteArray.size_append];omega,Or.inr (Or.inr ⟨rfl,by rw [ByteArray.size_append];omega⟩)⟩,hP.kept hb5⟩
   case measure=>simp [intOf]
  ·have HR:Hid (World.rangeAt _ w.heap.size 0 (rowOf 72 fun j=>.int .u32 (RV j)).toList):=range72 hP.roots
   have hA:2≤(u).size∧(u).size≤900:=⟨hu2,by omega⟩
   go_wp2_with (first|(refine wpList_load_mid rfl 80 _ rfl w.heap.size 0 rfl _ _ HR.out Tryz.underlying80 rfl (by rw [Array.length_toList,rowOf_size];exact info30) ?_;simp only [Array.toArray_toList])|(go_at_call 75;refine (short_w _ (by omega) _).mono ?_;rintro e w9 ⟨⟨t,rfl,ht⟩,hb9⟩;have hss9:=fun W=>@run_string_add_sum Tryz.prog W (u) t (by omega)))
   go_ret2
   exact ⟨⟨_,rfl,by rw [ByteArray.size_append];omega,by rw [ByteArray.size_append];omega⟩,(hP.kept hb9).below⟩
theorem packU  (w:World) :Calls Tryz.prog 42 #[.agg (rowOf 72 fun j=>.int .u32 (RV j)),.agg #[.int .i64 2,.int .u32 4,.int .u64 0,.int .u64 1099511627776,.int .u8 0,.int .u8 0,.int .u8 0,.slice none 0 0]] w fun e w'=>(∃ b:ByteArray,e=.returned (.tuple #[.string b,.int .i64 0])∧1≤b.size∧b.size≤1000)∧Below w.heap.size w w':=by
 have y1:IntKind.u8.wrap 2=2:=rfl
 have y2:IntKind.u64.wrap 4=4:=rfl
 have n1:(strOfNums [2]).size+(strOfNums [4]).size≤9223372036854775807:=by simp only [strOfNums_size,List.length];omega
 have hps:=PS.start w (.int .i64 2) (.int .u32 4) (.int .u64 0) (.int .u64 1099511627776) (.slice none 0 0)
 go_enter Tryz.func42,Tryz.ntmps42
 go_wp2_with (first
  | (go_at_call 72;refine (isFrame2 _ _ (Or.inr ⟨rfl,rfl⟩) _).mono ?_;rintro e w1 ⟨rfl,hb1⟩;have hp1:=hps.kept hb1;clear hps))
 refine wp_region_held_drew (S:=fun w'=>PS w w' (.int .i64 2) (.int .u32 4) (.int .u64 0) (.int .u64 1099511627776) (.slice none 0 0)) (by kernel_rfl) hp1.drew (fun hHeld=>?_)
 generalize World.drew _=wD at hHeld ⊢
 refine wF (fun _ h=>h.cells) fun x1=>?_
 refine tkx 0 14 x1 ?_
 refine tkx 1 15 x1 ?_
 refine tkx 2 16 x1 ?_
 refine tkx 5 19 x1 ?_
 refine tkx 6 20 x1 ?_
 refine tkx 7 21 x1 ?_
 refine wF (fun w _=>@run_string_add_sum Tryz.prog w (strOfNums [2]) (strOfNums [4]) n1) fun t1=>?_
 apply meet1 fun _ _=>True
 intro k21
 apply meet1 fun _ _=>True
 intro k20
 apply meet1 fun W gq=>W.cell? ⟨gq,0,none⟩=some (.int .u8 2)
 intro k11
 apply meet1 fun W gq=>W.cell? ⟨gq,0,none⟩=some (.int .u8 2)
 intro k10
 apply meet0
 intro k01
 refine rd2 3 (some 17) 8 (some 22) rfl rfl (fun K hK=>?_) (fun K hK=>?_)
 ·go_simp
  have q:=alloc_cell wD (.int .u8 2) 5
  have hHeld:=PS.alloc hHeld (.cells #[.int .u8 2] 5)
  generalize wD.heap.size=gq at q ⊢
  generalize World.alloc _ _=w1 at q hHeld ⊢
  exact hK.out _ _ hHeld fun hHeld=>k10 w1 gq hHeld q
 ·go_simp
  refine (varint_small 4 (by decide) (by decide) _).mono ?_
  rintro e w1 ⟨rfl,hbw⟩
  exact hK.out _ _ (hHeld.kept hbw) fun hHeld=>k01 w1 hHeld
 intro W hHeld
 refine rd 3 (some 17) rfl (fun K hK=>?_)
 go_simp
 have q:=alloc_cell W (.int .u8 2) 5
 have hHeld:=PS.alloc hHeld (.cells #[.int .u8 2] 5)
 generalize W.heap.size=gq at q ⊢
 generalize World.alloc _ _=w1 at q hHeld ⊢
 exact hK.out _ _ hHeld fun hHeld=>k11 w1 gq hHeld q
 intro W gq hHeld q
 refine rd2 4 (some 18) 8 (some 22) rfl rfl (fun K hK=>?_) (fun K hK=>?_)
 ·have hq:=conv_at _ _ _ q
  go_simp
  refine hK.out _ _ hHeld fun hHeld=>?_
  clear hK K hq
  exact k20 W gq hHeld trivial
 ·go_simp
  refine (varint_small 4 (by decide) (by decide) _).mono ?_
  rintro e w1 ⟨rfl,hbw⟩
  exact hK.out _ _ (hHeld.kept hbw) fun hHeld=>k11 w1 gq hHeld ((hbw.cell (block_lt_of_cell q)).trans q)
 intro W gq hHeld q
 refine rd 4 (some 18) rfl (fun K hK=>?_)
 have hq:=conv_at _ _ _ q
 go_simp
 refine hK.out _ _ hHeld fun hHeld=>?_
 clear hK K hq
 refine tkx 9 23 t1 ?_
 exact k21 W gq hHeld trivial
 intro W gq hHeld _
 refine rd 8 (some 22) rfl (fun K hK=>?_)
 go_simp
 refine (varint_small 4 (by decide) (by decide) _).mono ?_
 rintro e w1 ⟨rfl,hbw⟩
 refine hK.out _ _ (hHeld.kept hbw) fun hHeld=>?_
 clear hK K
 refine tkx 9 23 t1 ?_
 exact k21 w1 gq hHeld trivial
 intro W gq hHeld _
 refine rdg 10 (some 7) ?_
 refine wdn ?_
 generalize hv:strOfNums [2]++strOfNums [4]=v
 have hvs:v.size=2:=by rw [← hv];simp only [ByteArray.size_append,strOfNums_size,List.length]
 clear hv
 obtain ⟨c0,c1,c2,c3,c4,c5,c6,c7⟩:=hHeld.cells
 go_wp2
 refine wp_region_held_drew (S:=fun w'=>PS w w' (.int .i64 2) (.int .u32 4) (.int .u64 0) (.int .u64 1099511627776) (.slice none 0 0)) (by kernel_rfl) hHeld.drew (fun hHeld=>?_)
 clear c0 c1 c2 c3 c4 c5 c6 c7
 refine tkx 0 27 x1 ?_
 refine tkx 1 28 x1 ?_
 refine tkx 2 29 x1 ?_
 refine tkx 5 32 x1 ?_
 refine tkx 6 33 x1 ?_
 refine rd 3 (some 30) rfl (fun K hK=>?_)
 go_simp
 refine (varint_w 0 (by decide) (by decide) _).mono ?_
 rintro e wp1 ⟨⟨p1,rfl,hp1⟩,hbp1⟩
 refine hK.out _ _ (hHeld.kept hbp1) (fun hHeld=>?_)
 clear hK K
 refine tkf 4 31 (fun w _=>@run_string_add_sum Tryz.prog w v p1 (by omega)) ?_
 refine rd 7 (some 34) rfl (fun K hK=>?_)
 go_simp
 refine (varint_w 1099511627776 (by decide) (by decide) _).mono ?_
 rintro e wp2 ⟨⟨p2,rfl,hp2⟩,hbp2⟩
 refine hK.out _ _ (hHeld.kept hbp2) (fun hHeld=>?_)
 clear hK K
 refine tkf 8 35 (fun w _=>@run_string_add_sum Tryz.prog w (v++p1) p2 (by rw [ByteArray.size_append];omega)) ?_
 refine rdg 9 (some 7) ?_
 refine wdn ?_
 generalize hv2:v++p1++p2=v2
 have hvs2:2≤v2.size∧v2.size≤30:=by rw [← hv2];simp only [ByteArray.size_append];omega
 clear hv2
 obtain ⟨c0,c1,c2,c3,c4,c5,c6,c7⟩:=hHeld.cells
 have HR:Hid (World.rangeAt _ w.heap.size 0 (rowOf 72 fun j=>.int .u32 (RV j)).toList):=range72 hHeld.roots
 have hA:2≤(v2).size∧(v2).size≤900:=⟨hvs2.1,by omega⟩
 go_wp2_with (first|(refine wpList_load_mid rfl 80 _ rfl w.heap.size 0 rfl _ _ HR.out Tryz.underlying80 rfl (by rw [Array.length_toList,rowOf_size];exact info30) ?_;simp only [Array.toArray_toList])|(go_at_call 75;refine (short_w _ (by omega) _).mono ?_;rintro e w9 ⟨⟨t,rfl,ht⟩,hb9⟩;have hss9:=fun W=>@run_string_add_sum Tryz.prog W (v2) t (by omega)))
 go_ret2
 exact ⟨⟨_,rfl,by rw [ByteArray.size_append];omega,by rw [ByteArray.size_append];omega⟩,(hHeld.kept hb9).below⟩
theorem packT  (w:World) :Calls Tryz.prog 42 #[.agg (rowOf 72 fun j=>.int .u32 (RV j)),.agg #[.int .i64 1,.int .u32 1,.int .u64 0,.int .u64 1099511627776,.int .u8 0,.int .u8 0,.int .u8 0,.slice none 0 0]] w fun e w'=>(∃ b:ByteArray,e=.returned (.tuple #[.string b,.int .i64 0])∧1≤b.size∧b.size≤1000)∧Below w.heap.size w w':=by
 have y1:IntKind.u8.wrap 1=1:=rfl
 have y2:IntKind.u64.wrap 1=1:=rfl
 have n1:(strOfNums [1]).size+(strOfNums [1]).size≤9223372036854775807:=by simp only [strOfNums_size,List.length];omega
 have hps:=PS.start w (.int .i64 1) (.int .u32 1) (.int .u64 0) (.int .u64 1099511627776) (.slice none 0 0)
 go_enter Tryz.func42,Tryz.ntmps42
 go_wp2_with (first
  | (go_at_call 72;refine (isFrame2 _ _ (Or.inl ⟨rfl,rfl⟩) _).mono ?_;rintro e w1 ⟨rfl,hb1⟩;have hp1:=hps.kept hb1;clear hps))
 refine wp_region_held_drew (S:=fun w'=>PS w w' (.int .i64 1) (.int .u32 1) (.int .u64 0) (.int .u64 1099511627776) (.slice none 0 0)) (by kernel_rfl) hp1.drew (fun hHeld=>?_)
 generalize World.drew _=wD at hHeld ⊢
 refine wF (fun _ h=>h.cells) fun x1=>?_
 refine tkx 0 14 x1 ?_
 refine tkx 1 15 x1 ?_
 refine tkx 2 16 x1 ?_
 refine tkx 5 19 x1 ?_
 refine tkx 6 20 x1 ?_
 refine tkx 7 21 x1 ?_
 refine wF (fun w _=>@run_string_add_sum Tryz.prog w (strOfNums [1]) (strOfNums [1]) n1) fun t1=>?_
 apply meet1 fun _ _=>True
 intro k21
 apply meet1 fun _ _=>True
 intro k20
 apply meet1 fun W gq=>W.cell? ⟨gq,0,none⟩=some (.int .u8 1)
 intro k11
 apply meet1 fun W gq=>W.cell? ⟨gq,0,none⟩=some (.int .u8 1)
 intro k10
 apply meet0
 intro k01
 refine rd2 3 (some 17) 8 (some 22) rfl rfl (fun K hK=>?_) (fun K hK=>?_)
 ·go_simp
  have q:=alloc_cell wD (.int .u8 1) 5
  have hHeld:=PS.alloc hHeld (.cells #[.int .u8 1] 5)
  generalize wD.heap.size=gq at q ⊢
  generalize World.alloc _ _=w1 at q hHeld ⊢
  exact hK.out _ _ hHeld fun hHeld=>k10 w1 gq hHeld q
 ·go_simp
  refine (varint_small 1 (by decide) (by decide) _).mono ?_
  rintro e w1 ⟨rfl,hbw⟩
  exact hK.out _ _ (hHeld.kept hbw) fun hHeld=>k01 w1 hHeld
 intro W hHeld
 refine rd 3 (some 17) rfl (fun K hK=>?_)
 go_simp
 have q:=alloc_cell W (.int .u8 1) 5
 have hHeld:=PS.alloc hHeld (.cells #[.int .u8 1] 5)
 generalize W.heap.size=gq at q ⊢
 generalize World.alloc _ _=w1 at q hHeld ⊢
 exact hK.out _ _ hHeld fun hHeld=>k11 w1 gq hHeld q
 intro W gq hHeld q
 refine rd2 4 (some 18) 8 (some 22) rfl rfl (fun K hK=>?_) (fun K hK=>?_)
 ·have hq:=conv_at _ _ _ q
  go_simp
  refine hK.out _ _ hHeld fun hHeld=>?_
  clear hK K hq
  exact k20 W gq hHeld trivial
 ·go_simp
  refine (varint_small 1 (by decide) (by decide) _).mono ?_
  rintro e w1 ⟨rfl,hbw⟩
  exact hK.out _ _ (hHeld.kept hbw) fun hHeld=>k11 w1 gq hHeld ((hbw.cell (block_lt_of_cell q)).trans q)
 intro W gq hHeld q
 refine rd 4 (some 18) rfl (fun K hK=>?_)
 have hq:=conv_at _ _ _ q
 go_simp
 refine hK.out _ _ hHeld fun hHeld=>?_
 clear hK K hq
 refine tkx 9 23 t1 ?_
 exact k21 W gq hHeld trivial
 intro W gq hHeld _
 refine rd 8 (some 22) rfl (fun K hK=>?_)
 go_simp
 refine (varint_small 1 (by decide) (by decide) _).mono ?_
 rintro e w1 ⟨rfl,hbw⟩
 refine hK.out _ _ (hHeld.kept hbw) fun hHeld=>?_
 clear hK K
 refine tkx 9 23 t1 ?_
 exact k21 w1 gq hHeld trivial
 intro W gq hHeld _
 refine rdg 10 (some 7) ?_
 refine wdn ?_
 generalize hv:strOfNums [1]++strOfNums [1]=v
 have hvs:v.size=2:=by rw [← hv];simp only [ByteArray.size_append,strOfNums_size,List.length]
 clear hv
 obtain ⟨c0,c1,c2,c3,c4,c5,c6,c7⟩:=hHeld.cells
 go_wp2
 refine wp_region_held_drew (S:=fun w'=>PS w w' (.int .i64 1) (.int .u32 1) (.int .u64 0) (.int .u64 1099511627776) (.slice none 0 0)) (by kernel_rfl) hHeld.drew (fun hHeld=>?_)
 clear c0 c1 c2 c3 c4 c5 c6 c7
 refine tkx 0 27 x1 ?_
 refine tkx 1 28 x1 ?_
 refine tkx 2 29 x1 ?_
 refine tkx 5 32 x1 ?_
 refine tkx 6 33 x1 ?_
 refine rd 3 (some 30) rfl (fun K hK=>?_)
 go_simp
 refine (varint_w 0 (by decide) (by decide) _).mono ?_
 rintro e wp1 ⟨⟨p1,rfl,hp1⟩,hbp1⟩
 refine hK.out _ _ (hHeld.kept hbp1) (fun hHeld=>?_)
 clear hK K
 refine tkf 4 31 (fun w _=>@run_string_add_sum Tryz.prog w v p1 (by omega)) ?_
 refine rd 7 (some 34) rfl (fun K hK=>?_)
 go_simp
 refine (varint_w 1099511627776 (by decide) (by decide) _).mono ?_
 rintro e wp2 ⟨⟨p2,rfl,hp2⟩,hbp2⟩
 refine hK.out _ _ (hHeld.kept hbp2) (fun hHeld=>?_)
 clear hK K
 refine tkf 8 35 (fun w _=>@run_string_add_sum Tryz.prog w (v++p1) p2 (by rw [ByteArray.size_append];omega)) ?_
 refine rdg 9 (some 7) ?_
 refine wdn ?_
 generalize hv2:v++p1++p2=v2
 have hvs2:2≤v2.size∧v2.size≤30:=by rw [← hv2];simp only [ByteArray.size_append];omega
 clear hv2
 obtain ⟨c0,c1,c2,c3,c4,c5,c6,c7⟩:=hHeld.cells
 have hdg:=conv3 _ _ c4 c5 c6
 have h3s:=strOfNums_size [0,0,0]
 have hss3:=fun W=>@run_string_add_sum Tryz.prog W v2 (strOfNums [0,0,0]) (by rw [h3s,List.length_cons,List.length_cons,List.length_cons,List.length_nil];omega)
 have HR:Hid (World.rangeAt _ w.heap.size 0 (rowOf 72 fun j=>.int .u32 (RV j)).toList):=range72 hHeld.roots
 have hA:2≤(v2++strOfNums [0,0,0]).size∧(v2++strOfNums [0,0,0]).size≤900:=by rw [ByteArray.size_append,h3s,List.length_cons,List.length_cons,List.length_cons,List.length_nil];omega
 go_wp2_with (first|(refine wpList_load_mid rfl 80 _ rfl w.heap.size 0 rfl _ _ HR.out Tryz.underlying80 rfl (by rw [Array.length_toList,rowOf_size];exact info30) ?_;simp only [Array.toArray_toList])|(go_at_call 75;refine (short_w _ (by omega) _).mono ?_;rintro e w9 ⟨⟨t,rfl,ht⟩,hb9⟩;have hss9:=fun W=>@run_string_add_sum Tryz.prog W (v2++strOfNums [0,0,0]) t (by omega)))
 go_ret2
 exact ⟨⟨_,rfl,by rw [ByteArray.size_append];omega,by rw [ByteArray.size_append];omega⟩,(hHeld.kept hb9).below⟩
end Go.Proofs.YtgccjefbedpmpaaGreatDoor

import Derived.Test.YtgccjefbedpmpaaGreatDoorYByts
import Derived.Maps.AppendAt
namespace Go.Proofs.YtgccjefbedpmpaaGreatDoor
open Go.RowKit
set_option maxRecDepth 100000
set_option maxHeartbeats 8000000
variable {i q r : Nat} {l : List Int} {s : ByteArray}
theorem kq (W:World) (o:Obj):Bel W (W.alloc o):=(qj _ _).alloc (qb _) o
def Opn.key (o:Opn):Int:=o.cl*1048576+o.ck
def Opn.ok (o:Opn):Bool:=okOp o.kd o.cl o.ck o.st o.rf o.ch
theorem okOp_w {o:Opn} (h:o.ok=true) (h0:0≤o.rf):OpW o:=by
 obtain ⟨k,cl,ck,st,rf,ch⟩:=o;unfold Opn.ok okOp at h;dsimp only at h h0;simp only [qx,decide_eq_true_eq] at h;obtain ⟨⟨⟨⟨⟨⟨⟨h1,h2⟩,h3⟩,h4⟩,h5⟩,h6⟩,_⟩,h8⟩:=h
 have hrf:okKey rf=true∨rf=0→rf≤1099511627775:=fun e=>by
  rcases e with e|e
  ·unfold okKey at e;simp only [qx,decide_eq_true_eq] at e;omega
  ·omega
 split at h8
 ·rename_i e;subst e;simp only [qx,y9,decide_eq_true_eq] at h8;unfold okChar at h8;simp only [qx,decide_eq_true_eq] at h8;exact ⟨by dsimp only;omega,by dsimp only;omega,by dsimp only;omega,by dsimp only;omega,⟨h0,hrf h8.2⟩,⟨by dsimp only;omega,h8.1.1.2,fun e=>absurd rfl e⟩⟩
 ·simp only [qx,decide_eq_true_eq] at h8;exact ⟨by dsimp only;omega,by dsimp only;omega,by dsimp only;omega,by dsimp only;omega,⟨h0,hrf (Or.inl h8.1.2)⟩,⟨by dsimp only;omega,by dsimp only;omega,fun _=>h8.2⟩⟩
def OwnB (w:World) (B:Nat) (v:Value) (l:List Int):Prop:=w.ownsRow B 5 1 v l.length (u8s l)
theorem rnd_congr {k x:Int} {s s':Nat→Int} (h:∀ j,j<8→s j=s' j) (j:Nat):rnd k x s j=rnd k x s' j:=by
 have h0:=h 0 (by decide);have h1:=h 1 (by decide);have h2:=h 2 (by decide);have h3:=h 3 (by decide);have h4:=h 4 (by decide);have h5:=h 5 (by decide);have h6:=h 6 (by decide);have h7:=h 7 (by decide)
 match j with
 | 0=>simp only [rnd,h0,h1,h2,h4,h5,h6,h7]
 | 1=>exact h0
 | 2=>exact h1
 | 3=>exact h2
 | 4=>simp only [rnd,h3,h4,h5,h6,h7]
 | 5=>exact h4
 | 6=>exact h5
 | _+7=>exact h6
theorem stt_congr {K K' X X':Nat→Int} {s s':Nat→Int} (n:Nat) (hK:∀ j,j<n→K j=K' j) (hX:∀ j,j<n→X j=X' j) (h:∀ j,j<8→s j=s' j):∀ j,j<8→stt K X s n j=stt K' X' s' n j:=by
 induction n with
 | zero=>exact h
 | succ n ih=>
  intro j _;rw [stt,stt,hK n (by omega),hX n (by omega)];exact rnd_congr (ih (fun j hj=>hK j (by omega)) (fun j hj=>hX j (by omega))) j
theorem blk_congr {K K' X X':Nat→Int} {s s':Nat→Int} (hK:∀ j,j<64→K j=K' j) (hX:∀ j,X j=X' j) (h:∀ j,j<8→s j=s' j):∀ j,j<8→blk K X s j=blk K' X' s' j:=fun j hj=>by
 unfold blk;rw [stt_congr 64 hK (fun j _=>hX j) h j hj,h j hj]
theorem blks_congr {K K' m m' s s':Nat→Int} (n:Nat) (hK:∀ j,j<64→K j=K' j) (hm:∀ i,i<64*n→m i=m' i) (h:∀ j,j<8→s j=s' j):∀ j,j<8→blks K m s n j=blks K' m' s' n j:=by
 induction n with
 | zero=>exact h
 | succ n ih=>exact blk_congr hK (sch_congr fun i hi=>hm _ (by omega)) (ih fun i hi=>hm i (by omega))
theorem blks_add (K m s:Nat→Int) (a b:Nat):blks K m s (a+b)=blks K (fun i=>m (64*a+i)) (blks K m s a) b:=by
 induction b with
 | zero=>rfl
 | succ b ih=>
  rw [← zu,blks,blks,ih];have e:(fun i=>m (64*(a+b)+i))=fun i=>m (64*a+(64*b+i)):=by funext i;congr 1;omega
  rw [e]
def dl (s:ByteArray):List Int:=s.data.toList.map fun b=>(b.toNat:Int)
theorem mB_dl (s:ByteArray) (i:Nat):mB s i=(dl s)[i]?.getD 0:=by
 unfold mB dl;rw [List.getElem?_map];cases s.data.toList[i]?<;>rfl
theorem dl_length (s:ByteArray):(dl s).length=s.size:=by simp [dl]
theorem dl_append (a b:ByteArray):dl (a++b)=dl a++dl b:=by
 unfold dl;rw [ByteArray.data_append,Array.toList_append,yb]
theorem dl_one (x:Int) (h:0≤x∧x<256):dl (strOfNums [x])=[x]:=by
 have:(x.toNat % 256:Nat)=x.toNat:=by omega
 simp [dl,strOfNums,UInt8.toNat_ofNat',this];omega
theorem dl_padZ (s:ByteArray) (z:Nat):dl (padZ s z)=pre (dl s) z:=by
 induction z with
 | zero=>rw [padZ,dl_append];simp [pre,dl]
 | succ z ih=>rw [padZ,dl_append,ih];simp [pre,dl,List.replicate_succ']
theorem dl_padN (P:ByteArray) (n:Int) (k:Nat):dl (padN P n k)=dl P++be8 n k:=by
 induction k with
 | zero=>simp [padN,be8]
 | succ k ih=>
  rw [padN,dl_append,ih,dl_one _ (by omega),qr];simp [be8,List.range_succ]
theorem dl_padM (hs:s.size=64*q+r):dl (padM s)=(dl s).take (64*q)++tailL (mB s) q r:=by
 have hz:zer s.size=zer r:=by unfold zer;rw [hs];omega
 have hd:(List.range r).map (fun i=>mB s (64*q+i))=(dl s).drop (64*q):=by
  apply List.ext_getElem?;intro i;by_cases hi:i<r
  ·have hl:64*q+i<(dl s).length:=by rw [dl_length];omega
   rw [ju,List.getElem?_map,List.getElem?_range hi,qk hl];simp [mB_dl,hl]
  ·rw [zj (by simp;omega),zj (by simp [dl_length];omega)]
 unfold padM tailL;rw [dl_padN,dl_padZ,hd,hz,hs];unfold pre;rw [← qr,← qr,← qr,jh]
theorem padM_tail (hs:s.size=64*q+r) (i:Nat):mB (padM s) (64*q+i)=(tailL (mB s) q r).getD i 0:=by
 have hl:((dl s).take (64*q)).length=64*q:=by rw [qm,dl_length];omega
 rw [mB_dl,dl_padM hs,j9 (by omega),hl,show 64*q+i-64*q=i by omega,zv]
theorem padM_head (hs:s.size=64*q+r) (hi:i<64*q):mB (padM s) i=mB s i:=by
 have hl:((dl s).take (64*q)).length=64*q:=by rw [qm,dl_length];omega
 rw [mB_dl,mB_dl,dl_padM hs,yv (by omega),jc hi]
theorem sum_same (hs:s.size=64*q+r) {K:Nat→Int} (hK:∀ j,j<64→K j=KK j):∀ n,n<32→outB (shaOf K (mB s) q r) n=outB (blks KK (mB (padM s)) RV (nblk s.size)) n:=by
 intro n hn
 have hb:nblk s.size=q+nbk r:=by
  have hz:zer s.size=zer r:=by unfold zer;rw [hs];omega
  have:=nbk_len r;unfold nblk;rw [hz,hs];omega
 unfold outB;rw [hb,blks_add];unfold shaOf;have h0:∀ j,j<8→H0 j=RV j:=fun j hj=>by unfold RV;rw [if_pos hj]
 have h1:=blks_congr q hK (fun i hi=>(padM_head hs (q:=q) (r:=r) hi).symm) h0;rw [blks_congr (nbk r) hK (fun i _=>(padM_tail hs i).symm) h1 (n / 4) (by omega)]
def dig (s:ByteArray) (n:Nat):Int:=outB (blks KK (mB (padM s)) RV (nblk s.size)) n
theorem dl_son (h:Byt l):dl (strOfNums l)=l:=by
 unfold dl;rw [strOfNums_data,List.map_map];refine (List.map_congr_left fun x hx=>?_).trans (List.map_id _);obtain ⟨h0,h1⟩:=h x hx
 have:(UInt8.ofNat x.toNat).toNat=x.toNat:=by
  rw [UInt8.toNat_ofNat'];omega
 show ((UInt8.ofNat x.toNat).toNat:Int)=x;rw [this,kh h0]
def chk (s:ByteArray):List Int:=[dig s 0,dig s 1,dig s 2]
theorem mB_son (h:Byt l) (hi:i<l.length):mB (strOfNums l) i=l[i]:=by
 rw [mB_dl,dl_son h,qk hi];rfl
theorem mB_r (s:ByteArray) (i:Nat):0≤mB s i∧mB s i≤255:=by
 unfold mB;have:=(s.data.toList[i]?.getD 0).toNat_lt;omega
theorem shaB (b off cap:Nat) (l:List Int) (hl:Byt l) (w:World) (hg:11<w.heap.size) (hK:∀ j,j<64→w.cell? (Ad 11 j)=some (U3 (KK j))) (hc:∀ i (h:i<l.length),w.cell? ⟨b,off+i,none⟩=some (U8 l[i])) (hb:b<w.heap.size) (hn:l.length≤140737488355328) (hcap:l.length≤cap) :
  Cs 117 #[.slice (some (Ad b off)) l.length cap] w fun e w'=>e=.returned (.agg (rowOf 32 fun n=>U8 (dig (strOfNums l) n)))∧Bel w w':=by
 have e:l.length=64*(l.length / 64)+l.length % 64:=by omega
 have es:(strOfNums l).size=64*(l.length / 64)+l.length % 64:=by rw [strOfNums_size];exact e
 by_cases hne:cap=64*(l.length / 64)
 ·have hr:l.length % 64=0:=by omega
  have h:=sum_eq b off (l.length / 64) KK (mB (strOfNums l)) w hg hK (mB_r _) (fun i hi=>by rw [mB_son hl (show i<l.length by omega)];exact hc i (by omega)) hb (by omega);have e2:64*(l.length / 64)=l.length:=by omega
  rw [e2] at h;obtain rfl:cap=l.length:=by omega
  refine h.mono ?_;rintro x w' ⟨rfl,hb⟩;rw [hr] at es;exact ⟨by rw [xv fun j hj=>by rw [sum_same es (fun _ _=>rfl) j hj]];rfl,hb⟩
 ·have h:=sum_ne b off cap (l.length / 64) (l.length % 64) KK (mB (strOfNums l)) w hg hK (mB_r _) (fun i hi=>by rw [mB_son hl (show i<l.length by omega)];exact hc i (by omega)) hb (by omega) (by omega) (by omega) hne;rw [← e] at h;refine h.mono ?_;rintro x w' ⟨rfl,hb⟩;exact ⟨by rw [xv fun j hj=>by rw [sum_same es (fun _ _=>rfl) j hj]];rfl,hb⟩
section
variable {w W w2 : World} {k s lo hi ops : Value}
end

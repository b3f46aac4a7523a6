import Derived.Test.YtgccjefbedpmpaaGreatDoorYMem
import Derived.Deep.QuietTactic
import Derived.BigQuiet
namespace Go.Proofs.YtgccjefbedpmpaaGreatDoor
open Go.RowKit
set_option maxRecDepth 100000
set_option maxHeartbeats 8000000
def lstL (a:Int):List Int:=[a % 256,wrap64 (a.tdiv 256) % 256,77]
def lst (a:Int):Array Value:=#[.int .u8 (a % 256),.int .u8 (wrap64 (a.tdiv 256) % 256),.int .u8 77]
theorem listed_any (a:Int) (w:World) :
  Calls Tryz.prog 152 #[.int .i64 a] w fun e w'=>e=.returned (.slice (some ⟨w.heap.size,0,none⟩) 3 3)∧w'=w.alloc (.cells (lst a) 5):=by
 go_enter Tryz.func152,Tryz.ntmps152
 go_wp2
 go_ret
 exact ⟨rfl,rfl⟩
def hold4 (vb vo vl:Value) (mk:Int):Nat→Value
 | 0=>vb
 | 1=>vo
 | 2=>vl
 | _=>.int .i64 mk
def signs (mk:Int) (n:Nat):List Value:=(List.range n).map fun (i:Nat)=>.int .u8 (sg mk i)
def opc (mk:Int):Nat→Value
 | 0=>.int .i64 9
 | 1=>.int .u32 0
 | 2=>.int .u32 0
 | 3=>.int .u32 0
 | 4=>.int .u64 mk
 | _=>.int .i32 0
def opms (mk:Int) (n:Nat):List Value:=(List.range (n*6)).map fun i=>opc mk (i % 6)
def ListOk (w:World) (F:Nat→Prop) (mk:Int) (v:Value):Prop:=∃ g,v=.slice (some ⟨g,0,none⟩) 3 3∧F g∧w.heap[g]?=some (.cells (lst mk) 5 (0,0))
structure HoldOk (w:World) (F:Nat→Prop) (hb:Nat) (mk:Int) (nb no nl:Nat):Prop where
 inF:F hb
 pos:0≤mk∧mk≤9223372036854775807
 row:∃ vb vo vl ls,RowIs w hb 161 4 (hold4 vb vo vl mk)∧(w.ownsRow 0 5 1 vb nb (signs mk nb)∧∀ g,vb.ownBlock=some g→F g) ∧
  (w.ownsRow 0 43 6 vo no (opms mk no)∧∀ g,vo.ownBlock=some g→F g)∧(w.ownsRow 0 59 1 vl nl ls∧∀ g,vl.ownBlock=some g→F g)∧∀ v∈ls,ListOk w F mk v
theorem own_frame {w w':World} {base e size n:Nat} {v:Value} {xs:List Value} (h:w.ownsRow base e size v n xs) (hf:∀ g,v.ownBlock=some g→w'.heap[g]?=w.heap[g]?):w'.ownsRow base e size v n xs:=by
 refine ⟨h.1,?_⟩
 rcases h.2 with h2|⟨g,cap,cur,rfl,h3,h4,h5,h6,h7,h8⟩
 ·exact .inl h2
 ·exact .inr ⟨g,cap,cur,rfl,h3,(hf g rfl).trans h4,h5,h6,h7,h8⟩
theorem HoldOk.frame {w w':World} {F:Nat→Prop} {hb:Nat} {mk:Int} {nb no nl:Nat} (h:HoldOk w F hb mk nb no nl) (hf:∀ b,F b→w'.heap[b]?=w.heap[b]?):HoldOk w' F hb mk nb no nl:=by
 obtain ⟨hF,hp,vb,vo,vl,ls,hr,⟨h1,f1⟩,⟨h2,f2⟩,⟨h3,f3⟩,h4⟩:=h
 refine ⟨hF,hp,vb,vo,vl,ls,?_,⟨own_frame h1 fun g hg=>hf g (f1 g hg),f1⟩,⟨own_frame h2 fun g hg=>hf g (f2 g hg),f2⟩,⟨own_frame h3 fun g hg=>hf g (f3 g hg),f3⟩,?_⟩
 ·unfold RowIs;rw [hf hb hF];exact hr
 ·intro v hv
  obtain ⟨g,rfl,hg,hh⟩:=h4 v hv
  exact ⟨g,rfl,hg,(hf g hg).trans hh⟩
theorem HoldOk.mono {w:World} {F F':Nat→Prop} {hb:Nat} {mk:Int} {nb no nl:Nat} (h:HoldOk w F hb mk nb no nl) (hf:∀ b,F b→F' b):HoldOk w F' hb mk nb no nl:=by
 obtain ⟨hF,hp,vb,vo,vl,ls,hr,⟨h1,f1⟩,⟨h2,f2⟩,⟨h3,f3⟩,h4⟩:=h
 exact ⟨hf _ hF,hp,vb,vo,vl,ls,hr,⟨h1,fun g hg=>hf g (f1 g hg)⟩,⟨h2,fun g hg=>hf g (f2 g hg)⟩,⟨h3,fun g hg=>hf g (f3 g hg)⟩,fun v hv=>by
  obtain ⟨g,rfl,hg,hh⟩:=h4 v hv
  exact ⟨g,rfl,hf g hg,hh⟩⟩
theorem own_viewN {w:World} {base e size:Nat} {v:Value} {n:Nat} {xs:List Value} (h:w.ownsRow base e size v n xs) :
  ∃ ao cap,v=.slice ao n cap∧∀ i,i<n→∃ g,ao=some ⟨g,0,none⟩∧∀ j,j<n*size→w.cell? ⟨g,j,none⟩=xs[j]?:=by
 rcases h.2 with ⟨rfl,rfl⟩|⟨g,cap,cur,rfl,hb,hh,hn,hm,hc,ht⟩
 ·exact ⟨none,0,rfl,fun i hi=>absurd hi (by omega)⟩
 ·exact ⟨_,cap,rfl,fun i hi=>⟨g,rfl,fun j hj=>h.cellAt j hj⟩⟩
theorem signs_get {mk:Int} {n i:Nat} (h:i<n):(signs mk n)[i]?=some (.int .u8 (sg mk i)):=by simp [signs,h]
theorem opms_get {mk:Int} {n i:Nat} (h:i<n*6):(opms mk n)[i]?=some (opc mk (i % 6)):=by simp [opms,h]
theorem own_len {w:World} {base e size:Nat} {v:Value} {n:Nat} {xs:List Value} (h:w.ownsRow base e size v n xs):n≤9223372036854775807:=by
 rcases h.2 with ⟨rfl,rfl⟩|⟨g,cap,cur,rfl,hb,hh,hn,hm,hc,ht⟩
 ·omega
 ·unfold maxLen at hm;omega
theorem conv_lst (a:Int) (g:Nat) (W:World) (h:W.heap[g]?=some (.cells (lst a) 5 (0,0))):(convert 59 9 (.slice (some ⟨g,0,none⟩) 3 3)).run Tryz.prog W=.ok (.string (strOfNums (lstL a))) W:=
 run_convert_bytes_arg W 59 5 Tryz.underlying59 Tryz.underlying5 g 0 3 3 (lstL a) rfl (fun i hi=>by
  rw [cell_of_row _ _ _ _ _ _ h]
  match i,hi with
  | 0,_=>rfl
  | 1,_=>rfl
  | 2,_=>rfl) _ Tryz.underlying9
theorem marked_any {F:Nat→Prop} {hb:Nat} {mk:Int} {nb no nl:Nat} {w:World} (h:HoldOk w F hb mk nb no nl) (hF:∀ b,F b→b<w.heap.size) :
  Calls Tryz.prog 86 #[.pointer (some ⟨hb,0,none⟩)] w fun e w'=>e=.returned (.bool true)∧Below w.heap.size w w':=by
 obtain ⟨hFb,hp,vb,vo,vl,ls,hr,⟨o1,f1⟩,⟨o2,f2⟩,⟨o3,f3⟩,h4⟩:=h
 obtain ⟨ab,cb,rfl,v1⟩:=own_viewN o1
 obtain ⟨aop,co,rfl,v2⟩:=own_viewN o2
 obtain ⟨al,cl,rfl,v3⟩:=own_viewN o3
 have l1:=own_len o1
 have l2:=own_len o2
 have l3:=own_len o3
 have h0:w.cell? ⟨hb,0,none⟩=some (.slice ab nb cb):=hr.cell (by omega)
 have h1:w.cell? ⟨hb,1,none⟩=some (.slice aop no co):=hr.cell (by omega)
 have h2:w.cell? ⟨hb,2,none⟩=some (.slice al nl cl):=hr.cell (by omega)
 have h3:w.cell? ⟨hb,3,none⟩=some (.int .i64 mk):=hr.cell (by omega)
 have hp1:=hp.1
 have hp2:=hp.2
 clear hr o1 o2 f1 f2 hp
 go_enter Tryz.func86,Tryz.ntmps86
 go_wp2
 go_loopw [3,4] (fun b i wr=>∃ k:Nat,k≤nb∧b=.bool true∧i=.int .i64 k∧∃ nq,wr=w.drewN nq) (fun _ i _=>nb-(intOf i).toNat)
 case atStart=>exact ⟨0,Nat.zero_le _,rfl,rfl,0,rfl⟩
 case round=>
  obtain ⟨k,hk,rfl,rfl,nq,rfl⟩:=hrel
  by_cases hlt:k<nb
  ·obtain ⟨g,rfl,hc⟩:=v1 k hlt
   have ck:w.cell? ⟨g,k,none⟩=some (.int .u8 (sg mk k)):=(hc k (by omega)).trans (signs_get hlt)
   have lk:(k:Int)<(nb:Int):=by omega
   clear v1 v2 v3 hc h4
   go_wp2
   go_quiet ((go_at_call 151;refine (sign_any _ _ _).mono ?_;rintro e w' ⟨rfl,rfl⟩;exact ⟨rfl,_,rfl⟩))
   go_wp2
   go_roundw
   case rel=>exact ⟨k+1,by omega,rfl,by go_num,_,rfl⟩
   case measure=>simp [intOf];omega
  ·obtain rfl:k=nb:=by omega
   clear v1
   go_wp2
   go_loopw [3,5] (fun b i wr=>∃ k:Nat,k≤no∧b=.bool true∧i=.int .i64 k∧∃ nq,wr=w.drewN nq) (fun _ i _=>no-(intOf i).toNat)
   case atStart=>exact ⟨0,Nat.zero_le _,rfl,rfl,nq,rfl⟩
   case round=>
    obtain ⟨k,hk,rfl,rfl,nq,rfl⟩:=hrel
    by_cases hlt:k<no
    ·obtain ⟨g,rfl,hc⟩:=v2 k hlt
     have ck0:w.cell? ⟨g,k*6,none⟩=some (.int .i64 9):=(hc _ (by omega)).trans ((opms_get (by omega)).trans (by rw [show k*6 % 6=0 by omega];rfl))
     have ck1:w.cell? ⟨g,k*6+1,none⟩=some (.int .u32 0):=(hc _ (by omega)).trans ((opms_get (by omega)).trans (by rw [show (k*6+1) % 6=1 by omega];rfl))
     have ck2:w.cell? ⟨g,k*6+2,none⟩=some (.int .u32 0):=(hc _ (by omega)).trans ((opms_get (by omega)).trans (by rw [show (k*6+2) % 6=2 by omega];rfl))
     have ck3:w.cell? ⟨g,k*6+3,none⟩=some (.int .u32 0):=(hc _ (by omega)).trans ((opms_get (by omega)).trans (by rw [show (k*6+3) % 6=3 by omega];rfl))
     have ck4:w.cell? ⟨g,k*6+4,none⟩=some (.int .u64 mk):=(hc _ (by omega)).trans ((opms_get (by omega)).trans (by rw [show (k*6+4) % 6=4 by omega];rfl))
     have ck5:w.cell? ⟨g,k*6+5,none⟩=some (.int .i32 0):=(hc _ (by omega)).trans ((opms_get (by omega)).trans (by rw [show (k*6+5) % 6=5 by omega];rfl))
     have lk:(k:Int)<(no:Int):=by omega
     clear v2 v3 hc h4
     go_wp2
     go_quiet (fail)
     go_wp2
     go_roundw
     case rel=>exact ⟨k+1,by omega,rfl,by go_num,_,rfl⟩
     case measure=>simp [intOf];omega
    ·obtain rfl:k=no:=by omega
     clear v2
     go_wp2_with (go_at_call 152;refine (listed_any _ _).mono ?_;rintro e w' ⟨rfl,rfl⟩)
     go_loopw [3,7] (fun b i wr=>∃ k:Nat,k≤nl∧b=.bool true∧i=.int .i64 k∧∃ nq,wr=(w.alloc (.cells (lst mk) 5)).drewN nq) (fun _ i _=>nl-(intOf i).toNat)
     case atStart=>exact ⟨0,Nat.zero_le _,rfl,rfl,nq,rfl⟩
     case round=>
      obtain ⟨k,hk,rfl,rfl,nq,rfl⟩:=hrel
      have h2':(w.alloc (.cells (lst mk) 5)).cell? ⟨hb,2,none⟩=some (.slice al nl cl):=(World.cell?_of_block (Below.heap_alloc _ _ _ (hF hb hFb))).trans h2
      by_cases hlt:k<nl
      ·obtain ⟨g,rfl,hc⟩:=v3 k hlt
       obtain ⟨v,hv⟩:∃ v,ls[k]?=some v:=⟨ls[k]'(by rw [o3.1];omega),List.getElem?_eq_getElem _⟩
       obtain ⟨gk,rfl,hgF,hgk⟩:=h4 v (List.mem_of_getElem? hv)
       have ck:w.cell? ⟨g,k,none⟩=some (.slice (some ⟨gk,0,none⟩) 3 3):=(hc k (by omega)).trans hv
       have hgl:g<w.heap.size:=block_lt_of_cell ck
       have ck':(w.alloc (.cells (lst mk) 5)).cell? ⟨g,k,none⟩=some (.slice (some ⟨gk,0,none⟩) 3 3):=(World.cell?_of_block (Below.heap_alloc _ _ _ hgl)).trans ck
       have cv1:=fun n=>conv_lst mk gk ((w.alloc (.cells (lst mk) 5)).drewN n) ((Below.heap_alloc w _ _ (hF gk hgF)).trans hgk)
       have cv2:=fun n=>conv_lst mk w.heap.size ((w.alloc (.cells (lst mk) 5)).drewN n) (heap_alloc_new w _)
       have lk:(k:Int)<(nl:Int):=by omega
       clear v3 hc h4 hv hgk o3 f3
       go_wp2
       go_quiet (fail)
       go_wp2
       go_roundw
       case rel=>exact ⟨k+1,by omega,rfl,by go_num,_,rfl⟩
       case measure=>simp [intOf];omega
      ·obtain rfl:k=nl:=by omega
       clear v3 h4 o3 f3
       go_wp2
       go_ret
       exact ⟨rfl,below_drewN ((Below.refl _ _).alloc (Nat.le_refl _) _) _⟩
def wcell (R:Nat→Int) (vP vH:Value) (j:Nat):Value:=if j<72 then .int .u32 (R j) else if j=72 then vP else vH
def ptrs (hs:List Nat):List Value:=hs.map fun b=>.pointer (some ⟨b,0,none⟩)
structure WOk (w:World) (wd:Nat) (R:Nat→Int) (vP vH:Value) (F:Nat→Prop) (hs:List Nat):Prop where
 row:RowIs w wd 90 74 (wcell R vP vH)
 own:w.ownsRow 0 159 1 vH hs.length (ptrs hs)
 holds:∀ hb∈hs,∃ mk nb no nl,HoldOk w F hb mk nb no nl
 apart:¬ F wd∧∀ g,vH.ownBlock=some g→¬ F g∧g≠wd
 below:∀ b,F b→b<w.heap.size
theorem looks_any {w:World} {wd:Nat} {R:Nat→Int} {vP vH:Value} {F:Nat→Prop} {hs:List Nat} (h:WOk w wd R vP vH F hs) :
  Calls Tryz.prog 44 #[.pointer (some ⟨wd,0,none⟩)] w fun e w'=>e=.returned (.bool true)∧Below w.heap.size w w':=by
 obtain ⟨hr,ho,hh,ha,hF⟩:=h
 obtain ⟨ao,cp,rfl,hv⟩:=own_viewN ho
 have hl:=own_len ho
 have hwl:=hr.lt
 have c73:w.cell? ⟨wd,73,none⟩=some (.slice ao hs.length cp):=hr.cell (by omega)
 generalize hn:hs.length=n at *
 have Hn:Hid (hs.length=n):=hn
 clear hn hr ha
 go_enter Tryz.func44,Tryz.ntmps44
 go_wp2
 go_loopw [3] (fun i wr=>∃ k:Nat,k≤n∧i=.int .i64 k∧Below w.heap.size w wr) (fun i _=>n-(intOf i).toNat)
 case atStart=>exact ⟨0,Nat.zero_le _,rfl,Below.refl _ _⟩
 case round=>
  obtain ⟨k,hk,rfl,hbl⟩:=hrel
  have c73':wr.cell? ⟨wd,73,none⟩=some (.slice ao n cp):=(hbl.cell hwl).trans c73
  by_cases hlt:k<n
  ·obtain ⟨g,rfl,hc⟩:=hv k hlt
   have hlk:k<hs.length:=by rw [Hn.out];exact hlt
   have ck:w.cell? ⟨g,k,none⟩=some (.pointer (some ⟨hs[k],0,none⟩)):=(hc k (by omega)).trans (by simp [ptrs,hlk])
   have ck':wr.cell? ⟨g,k,none⟩=some (.pointer (some ⟨hs[k],0,none⟩)):=(hbl.cell (block_lt_of_cell ck)).trans ck
   obtain ⟨mk,nb,no,nl,hk4⟩:=hh hs[k] (List.getElem_mem hlk)
   have hk5:=hk4.frame (w':=wr) fun b hb=>hbl.block b (hF b hb)
   generalize hs[k]=hb at ck' hk5
   have lk:(k:Int)<(n:Int):=by omega
   clear ck hk4 hv hh hc c73 ho
   go_wp2_with (go_at_call 86;refine (marked_any hk5 (fun b hb=>Nat.lt_of_lt_of_le (hF b hb) hbl.size)).mono ?_;rintro e w1 ⟨rfl,hb1⟩)
   go_roundw
   case rel=>exact ⟨k+1,hlt,by go_num,hbl.trans (hb1.mono hbl.size)⟩
   case measure=>simp [intOf];omega
  ·obtain rfl:k=n:=by omega
   clear hv hh c73 ho
   go_wp2
   go_ret
   exact ⟨rfl,hbl⟩
theorem mix_set {A X:List Value} {n k:Nat} (hA:A.length=n) (hX:X.length=n) (hk:k<n) (u:Value) (hu:A[k]?=some u):(A.take k++X.drop k).set k u=A.take (k+1)++X.drop (k+1):=by
 have h1:k<A.length:=by omega
 have h2:k<X.length:=by omega
 have hu':u=A[k]:=by rw [List.getElem?_eq_getElem h1] at hu;exact (Option.some.inj hu).symm
 rw [List.set_append_right _ _ (by simp;omega),List.take_succ_eq_append_getElem h1,List.append_assoc,hu']
 congr 1
 rw [List.length_take,Nat.min_eq_left (Nat.le_of_lt h1),Nat.sub_self,List.drop_eq_getElem_cons h2]
 rfl
structure HoldRaw (w:World) (hb:Nat) (mk:Int) (vb vo vl:Value) (nb no nl:Nat) (xb xo xl:List Value):Prop where
 row:RowIs w hb 161 4 (hold4 vb vo vl mk)
 ob:w.ownsRow 0 5 1 vb nb xb
 oo:w.ownsRow 0 43 6 vo no xo
 ol:w.ownsRow 0 59 1 vl nl xl
theorem own_type {w:World} {e size n:Nat} {v:Value} {xs:List Value} (h:w.ownsRow 0 e size v n xs) {g:Nat} (hg:v.ownBlock=some g):∃ cur,w.heap[g]?=some (.cells cur e (0,0)):=by
 rcases h.2 with ⟨rfl,_⟩|⟨g',cap,cur,rfl,h3,h4,_⟩
 ·cases hg
 ·cases hg;exact ⟨cur,h4⟩
theorem own_apart {w:World} {e size n e' size' n':Nat} {v v':Value} {xs xs':List Value} (h:w.ownsRow 0 e size v n xs) (h':w.ownsRow 0 e' size' v' n' xs') (he:e≠e') {g:Nat} (hg:v.ownBlock=some g):v'.ownBlock≠some g:=fun hg'=>by
 obtain ⟨c,hc⟩:=own_type h hg
 obtain ⟨c',hc'⟩:=own_type h' hg'
 rw [hc] at hc';cases hc';exact he rfl
theorem row_apart {w:World} {e size n:Nat} {v:Value} {xs:List Value} (h:w.ownsRow 0 e size v n xs) {hb t k:Nat} {f:Nat→Value} (hr:RowIs w hb t k f) (he:e≠t) {g:Nat} (hg:v.ownBlock=some g):g≠hb:=fun e1=>by
 subst e1
 obtain ⟨c,hc⟩:=own_type h hg
 unfold RowIs at hr;rw [hc] at hr;cases hr;exact he rfl
structure But (X:Nat→Prop) (w wr:World):Prop where
 size:w.heap.size≤wr.heap.size
 os:wr.os=w.os
 tape:wr.tape=w.tape
 output:wr.output=w.output
 block:∀ b,b<w.heap.size→¬ X b→wr.heap[b]?=w.heap[b]?
theorem But.refl (X:Nat→Prop) (w:World):But X w w:=⟨Nat.le_refl _,rfl,rfl,rfl,fun _ _ _=>rfl⟩
theorem But.trans {X:Nat→Prop} {a b c:World} (h:But X a b) (k:But X b c):But X a c:=⟨Nat.le_trans h.size k.size,k.os.trans h.os,k.tape.trans h.tape,k.output.trans h.output,fun i hi hx=>(k.block i (Nat.lt_of_lt_of_le hi h.size) hx).trans (h.block i hi hx)⟩
theorem But.mono {X Y:Nat→Prop} {a b:World} (h:But X a b) (hxy:∀ b,X b→Y b):But Y a b:=⟨h.size,h.os,h.tape,h.output,fun i hi hx=>h.block i hi fun e=>hx (hxy _ e)⟩
theorem But.below {X:Nat→Prop} {a b:World} (h:Below a.heap.size a b):But X a b:=⟨h.size,h.os,h.tape,h.output,fun i hi _=>h.block i hi⟩
theorem But.drew {X:Nat→Prop} {a b:World} (h:But X a b):But X a b.drew:=⟨h.size,h.os,h.tape,h.output,h.block⟩
theorem But.setCell {X:Nat→Prop} {a b:World} (h:But X a b) {p:Addr} (hp:X p.block∨a.heap.size≤p.block) (v:Value):But X a (b.setCell p v):=
 ⟨by simpa [World.setCell] using h.size,h.os,h.tape,h.output,fun i hi hx=>(heap_setCell_other _ _ _ _ (fun e=>by rcases hp with hp|hp;exact hx (e▸hp);omega)).trans (h.block i hi hx)⟩
theorem But.alloc {X:Nat→Prop} {a b:World} (h:But X a b) (o:Obj):But X a (b.alloc o):=h.trans (But.below ((Below.refl _ _).alloc (Nat.le_refl _) o))
theorem RowIs.but {w wr:World} {g:Nat} {t:TypeId} {n:Nat} {f:Nat→Value} {X:Nat→Prop} (h:RowIs w g t n f) (hb:But X w wr) (hg:¬ X g):RowIs wr g t n f:=by
 unfold RowIs;rw [hb.block g h.lt hg];exact h
theorem HoldRaw.setB {w:World} {hb:Nat} {mk:Int} {g cb:Nat} {vo vl:Value} {nb no nl:Nat} {xb xo xl:List Value} (h:HoldRaw w hb mk (.slice (some ⟨g,0,none⟩) nb cb) vo vl nb no nl xb xo xl) (k:Nat) (u:Value) :
  HoldRaw (w.setCell ⟨g,k,none⟩ u) hb mk (.slice (some ⟨g,0,none⟩) nb cb) vo vl nb no nl (xb.set k u) xo xl:=
 ⟨h.row.setOther (a:=⟨g,k,none⟩) (fun e=>row_apart h.ob h.row (by decide) rfl e) _,(h.ob.stored k u).1,own_frame h.oo fun g' hg'=>heap_setCell_other _ _ _ _ (fun e=>own_apart h.oo h.ob (by decide) hg' (by rw [e];rfl)),own_frame h.ol fun g' hg'=>heap_setCell_other _ _ _ _ (fun e=>own_apart h.ol h.ob (by decide) hg' (by rw [e];rfl))⟩
theorem HoldRaw.setO {w:World} {hb:Nat} {mk:Int} {g co:Nat} {vb vl:Value} {nb no nl:Nat} {xb xo xl:List Value} (h:HoldRaw w hb mk vb (.slice (some ⟨g,0,none⟩) no co) vl nb no nl xb xo xl) (k:Nat) (u:Value) :
  HoldRaw (w.setCell ⟨g,k,none⟩ u) hb mk vb (.slice (some ⟨g,0,none⟩) no co) vl nb no nl xb (xo.set k u) xl:=
 ⟨h.row.setOther (a:=⟨g,k,none⟩) (fun e=>row_apart h.oo h.row (by decide) rfl e) _,own_frame h.ob fun g' hg'=>heap_setCell_other _ _ _ _ (fun e=>own_apart h.ob h.oo (by decide) hg' (by rw [e];rfl)),(h.oo.stored k u).1,own_frame h.ol fun g' hg'=>heap_setCell_other _ _ _ _ (fun e=>own_apart h.ol h.oo (by decide) hg' (by rw [e];rfl))⟩
theorem HoldRaw.setL {w:World} {hb:Nat} {mk:Int} {g cl:Nat} {vb vo:Value} {nb no nl:Nat} {xb xo xl:List Value} (h:HoldRaw w hb mk vb vo (.slice (some ⟨g,0,none⟩) nl cl) nb no nl xb xo xl) (k:Nat) (u:Value) :
  HoldRaw (w.setCell ⟨g,k,none⟩ u) hb mk vb vo (.slice (some ⟨g,0,none⟩) nl cl) nb no nl xb xo (xl.set k u):=
 ⟨h.row.setOther (a:=⟨g,k,none⟩) (fun e=>row_apart h.ol h.row (by decide) rfl e) _,own_frame h.ob fun g' hg'=>heap_setCell_other _ _ _ _ (fun e=>own_apart h.ob h.ol (by decide) hg' (by rw [e];rfl)),own_frame h.oo fun g' hg'=>heap_setCell_other _ _ _ _ (fun e=>own_apart h.oo h.ol (by decide) hg' (by rw [e];rfl)),(h.ol.stored k u).1⟩
theorem HoldRaw.frame {w w':World} {hb:Nat} {mk:Int} {vb vo vl:Value} {nb no nl:Nat} {xb xo xl:List Value} (h:HoldRaw w hb mk vb vo vl nb no nl xb xo xl) (hf:∀ b,b<w.heap.size→w'.heap[b]?=w.heap[b]?):HoldRaw w' hb mk vb vo vl nb no nl xb xo xl:=
 ⟨by unfold RowIs;rw [hf hb h.row.lt];exact h.row,own_frame h.ob fun g hg=>hf g (h.ob.lt g hg).2,own_frame h.oo fun g hg=>hf g (h.oo.lt g hg).2,own_frame h.ol fun g hg=>hf g (h.ol.lt g hg).2⟩
theorem HoldRaw.six {w:World} {hb:Nat} {mk:Int} {g co:Nat} {vb vl:Value} {nb no nl:Nat} {xb xo xl:List Value} {k:Nat} (hk:k<no) (hl:xo.length=no*6)
  (h:HoldRaw w hb mk vb (.slice (some ⟨g,0,none⟩) no co) vl nb no nl xb ((opms mk no).take (k*6)++xo.drop (k*6)) xl) :
  HoldRaw ((((((w.setCell ⟨g,k*6,none⟩ (.int .i64 9)).setCell ⟨g,k*6+1,none⟩ (.int .u32 0)).setCell ⟨g,k*6+2,none⟩ (.int .u32 0)).setCell ⟨g,k*6+3,none⟩ (.int .u32 0)).setCell ⟨g,k*6+4,none⟩ (.int .u64 mk)).setCell ⟨g,k*6+5,none⟩ (.int .i32 0)) hb mk vb (.slice (some ⟨g,0,none⟩) no co) vl nb no nl xb ((opms mk no).take ((k+1)*6)++xo.drop ((k+1)*6)) xl:=by
 have hA:(opms mk no).length=no*6:=by simp [opms]
 have s:=fun j (hj:j<6)=>mix_set hA hl (show k*6+j<no*6 by omega) (opc mk j) ((opms_get (by omega)).trans (by rw [show (k*6+j) % 6=j by omega]))
 have h6:=(((((h.setO (k*6) (.int .i64 9)).setO (k*6+1) (.int .u32 0)).setO (k*6+2) (.int .u32 0)).setO (k*6+3) (.int .u32 0)).setO (k*6+4) (.int .u64 mk)).setO (k*6+5) (.int .i32 0)
 have e:(((((((opms mk no).take (k*6)++xo.drop (k*6)).set (k*6) (.int .i64 9)).set (k*6+1) (.int .u32 0)).set (k*6+2) (.int .u32 0)).set (k*6+3) (.int .u32 0)).set (k*6+4) (.int .u64 mk)).set (k*6+5) (.int .i32 0)=(opms mk no).take ((k+1)*6)++xo.drop ((k+1)*6):=by
  have s0:=s 0 (by omega)
  have s1:=s 1 (by omega)
  have s2:=s 2 (by omega)
  have s3:=s 3 (by omega)
  have s4:=s 4 (by omega)
  have s5:=s 5 (by omega)
  simp only [opc,Nat.add_zero] at s0 s1 s2 s3 s4 s5
  rw [s0,s1,s2,s3,s4,s5,show k*6+5+1=(k+1)*6 by omega]
 rw [e] at h6
 exact h6
theorem HoldRaw.drew {w:World} {hb:Nat} {mk:Int} {vb vo vl:Value} {nb no nl:Nat} {xb xo xl:List Value} (h:HoldRaw w hb mk vb vo vl nb no nl xb xo xl):HoldRaw w.drew hb mk vb vo vl nb no nl xb xo xl:=⟨h.row,h.ob,h.oo,h.ol⟩
theorem ListOk.frame {w w':World} {F F':Nat→Prop} {mk:Int} {v:Value} (h:ListOk w F mk v) (hF:∀ b,F b→F' b) (hf:∀ b,F b→w'.heap[b]?=w.heap[b]?):ListOk w' F' mk v:=by
 obtain ⟨g,rfl,hg,hh⟩:=h
 exact ⟨g,rfl,hF g hg,(hf g hg).trans hh⟩
theorem lists_rel {w wr:World} {g m:Nat} {mk:Int} {ls:List Value} (hlo:∀ v∈ls,ListOk wr (fun b=>w.heap.size≤b∧b<wr.heap.size) mk v) (hlg:∀ cur,wr.heap[g]?=some (.cells cur 5 (0,0))→False) (hws:w.heap.size≤wr.heap.size) (u:Value) :
  ∀ v∈ls++[Value.slice (some ⟨wr.heap.size,0,none⟩) 3 3],ListOk ((wr.setCell ⟨g,m,none⟩ u).alloc (.cells (lst mk) 5)).drew (fun b=>w.heap.size≤b∧b<((wr.setCell ⟨g,m,none⟩ u).alloc (.cells (lst mk) 5)).drew.heap.size) mk v:=by
 have hs0:(wr.setCell ⟨g,m,none⟩ u).heap.size=wr.heap.size:=by simp [World.setCell]
 have hsz:((wr.setCell ⟨g,m,none⟩ u).alloc (.cells (lst mk) 5)).drew.heap.size=wr.heap.size+1:=by
  show ((wr.setCell ⟨g,m,none⟩ u).alloc (.cells (lst mk) 5)).heap.size=_
  simp [World.setCell]
 intro v hv
 rcases List.mem_append.1 hv with hv|hv
 ·obtain ⟨g',rfl,hg',hh⟩:=hlo v hv
  have hne:g'≠g:=fun e=>by subst e;exact hlg _ hh
  refine ⟨g',rfl,⟨hg'.1,by rw [hsz];omega⟩,?_⟩
  exact (Below.heap_alloc _ _ _ (by rw [hs0];exact hg'.2)).trans ((heap_setCell_other _ _ _ _ hne).trans hh)
 ·simp at hv;subst hv
  refine ⟨_,rfl,⟨hws,by rw [hsz];omega⟩,?_⟩
  have:=heap_alloc_new (wr.setCell ⟨g,m,none⟩ u) (.cells (lst mk) 5)
  rw [hs0] at this;exact this
def ownX (vb vo vl:Value) (b:Nat):Prop:=vb.ownBlock=some b∨vo.ownBlock=some b∨vl.ownBlock=some b
theorem setCell_two {wr:World} {g k hb:Nat} {o:Nat} {x:Value} (hgb:g≠hb) (h:wr.cell? ⟨hb,o,none⟩=some x) (v:Value):(wr.setCell ⟨g,k,none⟩ v).cell? ⟨hb,o,none⟩=some x:=
 (World.cell?_of_block (heap_setCell_other _ _ _ _ (fun e=>hgb e.symm))).trans h
theorem marks_any {hb:Nat} {mk:Int} {vb vo vl:Value} {nb no nl:Nat} {xb xo xl:List Value} {w:World} (h:HoldRaw w hb mk vb vo vl nb no nl xb xo xl) (hmk:0≤mk) (hmk2:mk≤9223372036854775807) :
  Calls Tryz.prog 141 #[.pointer (some ⟨hb,0,none⟩)] w fun e w'=>e=.returned (.tuple #[])∧(∃ ls,HoldRaw w' hb mk vb vo vl nb no nl (signs mk nb) (opms mk no) ls∧∀ v∈ls,ListOk w' (fun b=>w.heap.size≤b∧b<w'.heap.size) mk v)∧But (ownX vb vo vl) w w':=by
 obtain ⟨ab,cb,rfl,_⟩:=own_viewN h.ob
 obtain ⟨aop,co,rfl,_⟩:=own_viewN h.oo
 obtain ⟨al,cl,rfl,_⟩:=own_viewN h.ol
 have l1:=own_len h.ob
 have l2:=own_len h.oo
 have l3:=own_len h.ol
 have q1:xb.length=nb:=by have:=h.ob.1;omega
 have q2:xo.length=no*6:=h.oo.1
 have q3:xl.length=nl:=by have:=h.ol.1;omega
 generalize hXX:ownX (.slice ab nb cb) (.slice aop no co) (.slice al nl cl)=X
 have HXX:Hid (ownX (.slice ab nb cb) (.slice aop no co) (.slice al nl cl)=X):=hXX
 clear hXX
 go_enter Tryz.func141,Tryz.ntmps141
 go_wp2
 go_loopw [2] (fun i wr=>∃ k:Nat,k≤nb∧i=.int .i64 k∧HoldRaw wr hb mk (.slice ab nb cb) (.slice aop no co) (.slice al nl cl) nb no nl ((signs mk nb).take k++xb.drop k) xo xl∧But X w wr) (fun i _=>nb-(intOf i).toNat)
 case atStart=>exact ⟨0,Nat.zero_le _,rfl,by simpa using h,But.refl _ _⟩
 case round=>
  obtain ⟨k,hk,rfl,hw,hbt⟩:=hrel
  have h0:wr.cell? ⟨hb,0,none⟩=some (.slice ab nb cb):=hw.row.cell (by omega)
  have h3:wr.cell? ⟨hb,3,none⟩=some (.int .i64 mk):=hw.row.cell (by omega)
  by_cases hlt:k<nb
  ·obtain ⟨_,_,hv,hc⟩:=own_viewN hw.ob
   cases hv
   obtain ⟨g,rfl,hcg⟩:=hc k hlt
   have hgb:g≠hb:=row_apart hw.ob hw.row (by decide) rfl
   have hl2:(signs mk nb).length=nb:=by simp [signs]
   obtain ⟨old,ho⟩:∃ old,((signs mk nb).take k++xb.drop k)[k]?=some old:=⟨_,List.getElem?_eq_getElem (by simp;omega)⟩
   have ck:wr.cell? ⟨g,k,none⟩=some old:=(hcg k (by omega)).trans ho
   have fk:=hw.ob.frozenAt k
   have lk:(k:Int)<(nb:Int):=by omega
   have hs0:=setCell_two (k:=k) hgb h0
   have hs3:=setCell_two (k:=k) hgb h3
   have hw':=hw.setB k (.int .u8 (sg mk k))
   rw [mix_set hl2 q1 hlt _ (signs_get hlt)] at hw'
   have Hw:Hid (HoldRaw (wr.setCell ⟨g,k,none⟩ (.int .u8 (sg mk k))) hb mk (.slice (some ⟨g,0,none⟩) nb cb) (.slice aop no co) (.slice al nl cl) nb no nl ((signs mk nb).take (k+1)++xb.drop (k+1)) xo xl):=hw'
   have hX:X g:=by rw [← HXX.out];exact Or.inl rfl
   clear hc hcg ho hw' hw
   go_wp2
   go_region_held3 (fun w'=>w'.cell? ⟨hb,0,none⟩=some (.slice (some ⟨g,0,none⟩) nb cb)∧w'.cell? ⟨hb,3,none⟩=some (.int .i64 mk)) (go_keep) ((go_at_call 151;refine (sign_any _ _ _).mono ?_;rintro e w' ⟨rfl,rfl⟩))
   go_wp2
   go_roundw
   case rel=>exact ⟨k+1,hlt,by go_num,Hw.out.drew,(hbt.setCell (Or.inl hX) _).drew⟩
   case measure=>simp [intOf];omega
  ·obtain rfl:k=nb:=by omega
   have hl2:(signs mk k).length=k:=by simp [signs]
   have hw1:HoldRaw wr hb mk (.slice ab k cb) (.slice aop no co) (.slice al nl cl) k no nl (signs mk k) xo xl:=by
    rw [List.take_of_length_le (by omega),List.drop_of_length_le (by omega),List.append_nil] at hw;exact hw
   clear hw
   go_wp2
   go_loopw [3] (fun i wr=>∃ j:Nat,j≤no∧i=.int .i64 j∧HoldRaw wr hb mk (.slice ab k cb) (.slice aop no co) (.slice al nl cl) k no nl (signs mk k) ((opms mk no).take (j*6)++xo.drop (j*6)) xl∧But X w wr) (fun i _=>no-(intOf i).toNat)
   case atStart=>exact ⟨0,Nat.zero_le _,rfl,by simpa using hw1,hbt⟩
   case round=>
    clear hw1 hbt
    obtain ⟨j,hj,rfl,hw,hbt⟩:=hrel
    have h1:wr.cell? ⟨hb,1,none⟩=some (.slice aop no co):=hw.row.cell (by omega)
    have h3:wr.cell? ⟨hb,3,none⟩=some (.int .i64 mk):=hw.row.cell (by omega)
    by_cases hlt:j<no
    ·obtain ⟨_,_,hv,hc⟩:=own_viewN hw.oo
     cases hv
     obtain ⟨g,rfl,hcg⟩:=hc j hlt
     have hgb:g≠hb:=row_apart hw.oo hw.row (by decide) rfl
     have hA:(opms mk no).length=no*6:=by simp [opms]
     have cs:∀ i,i<6→∃ old,wr.cell? ⟨g,j*6+i,none⟩=some old:=fun i hi=>⟨_,(hcg _ (by omega)).trans (List.getElem?_eq_getElem (by simp;omega))⟩
     obtain ⟨y0,ck0⟩:=cs 0 (by omega)
     obtain ⟨y1,ck1⟩:=cs 1 (by omega)
     obtain ⟨y2,ck2⟩:=cs 2 (by omega)
     obtain ⟨y3,ck3⟩:=cs 3 (by omega)
     obtain ⟨y4,ck4⟩:=cs 4 (by omega)
     obtain ⟨y5,ck5⟩:=cs 5 (by omega)
     simp only [Nat.add_zero] at ck0
     have fk:=hw.oo.frozenAt
     have lk:(j:Int)<(no:Int):=by omega
     have hw':=HoldRaw.six hlt q2 hw
     have hX:X g:=by rw [← HXX.out];exact Or.inr (Or.inl rfl)
     clear hc hcg cs hw
     go_wp2
     go_region
     go_wp2
     go_roundw
     case rel=>exact ⟨j+1,hlt,by go_num,hw'.drew,((((((hbt.setCell (Or.inl hX) _).setCell (Or.inl hX) _).setCell (Or.inl hX) _).setCell (Or.inl hX) _).setCell (Or.inl hX) _).setCell (Or.inl hX) _).drew⟩
     case measure=>simp [intOf];omega
    ·obtain rfl:j=no:=by omega
     have hA:(opms mk j).length=j*6:=by simp [opms]
     have hw1:HoldRaw wr hb mk (.slice ab k cb) (.slice aop j co) (.slice al nl cl) k j nl (signs mk k) (opms mk j) xl:=by
      rw [List.take_of_length_le (by omega),List.drop_of_length_le (by omega),List.append_nil] at hw;exact hw
     clear hw
     go_wp2
     go_loopw [4] (fun i wr=>∃ m:Nat,m≤nl∧i=.int .i64 m∧∃ ls:List Value,ls.length=m∧HoldRaw wr hb mk (.slice ab k cb) (.slice aop j co) (.slice al nl cl) k j nl (signs mk k) (opms mk j) (ls++xl.drop m)∧(∀ v∈ls,ListOk wr (fun b=>w.heap.size≤b∧b<wr.heap.size) mk v)∧But X w wr) (fun i _=>nl-(intOf i).toNat)
     case atStart=>exact ⟨0,Nat.zero_le _,rfl,[],rfl,by simpa using hw1,(fun _ h=>by cases h),hbt⟩
     case round=>
      clear hw1 hbt
      obtain ⟨m,hm,rfl,ls,hls,hw,hlo,hbt⟩:=hrel
      have h2:wr.cell? ⟨hb,2,none⟩=some (.slice al nl cl):=hw.row.cell (by omega)
      have h3:wr.cell? ⟨hb,3,none⟩=some (.int .i64 mk):=hw.row.cell (by omega)
      by_cases hlt:m<nl
      ·obtain ⟨_,_,hv,hc⟩:=own_viewN hw.ol
       cases hv
       obtain ⟨g,rfl,hcg⟩:=hc m hlt
       have hgb:g≠hb:=row_apart hw.ol hw.row (by decide) rfl
       have hgl:g<wr.heap.size:=(hw.ol.lt g rfl).2
       have hbl:=hw.row.lt
       obtain ⟨old,ho⟩:∃ old,(ls++xl.drop m)[m]?=some old:=⟨_,List.getElem?_eq_getElem (by simp;omega)⟩
       have ck:wr.cell? ⟨g,m,none⟩=some old:=(hcg m (by omega)).trans ho
       have fk:=hw.ol.frozenAt m
       have fk':(wr.alloc (.cells (lst mk) 5)).frozen? ⟨g,m,none⟩=false:=(World.frozen?_of_block (Below.heap_alloc _ _ _ hgl)).trans fk
       have ck':(wr.alloc (.cells (lst mk) 5)).cell? ⟨g,m,none⟩=some old:=(World.cell?_of_block (Below.heap_alloc _ _ _ hgl)).trans ck
       have h2a:(wr.alloc (.cells (lst mk) 5)).cell? ⟨hb,2,none⟩=some (.slice (some ⟨g,0,none⟩) nl cl):=(World.cell?_of_block (Below.heap_alloc _ _ _ hbl)).trans h2
       have h3a:(wr.alloc (.cells (lst mk) 5)).cell? ⟨hb,3,none⟩=some (.int .i64 mk):=(World.cell?_of_block (Below.heap_alloc _ _ _ hbl)).trans h3
       have hs2:=setCell_two (k:=m) hgb h2a
       have hs3:=setCell_two (k:=m) hgb h3a
       have lk:(m:Int)<(nl:Int):=by omega
       have hw':=(hw.setL m (.slice (some ⟨wr.heap.size,0,none⟩) 3 3))
       have hset:(ls++xl.drop m).set m (.slice (some ⟨wr.heap.size,0,none⟩) 3 3)=(ls++[.slice (some ⟨wr.heap.size,0,none⟩) 3 3])++xl.drop (m+1):=by
        rw [List.set_append_right _ _ (by omega),hls,Nat.sub_self,List.drop_eq_getElem_cons (show m<xl.length by omega),List.append_assoc];rfl
       rw [hset] at hw'
       have hlg:∀ cur,wr.heap[g]?=some (.cells cur 5 (0,0))→False:=fun cur hcur=>by
        obtain ⟨c,hc⟩:=own_type hw.ol (g:=g) rfl
        rw [hcur] at hc;cases hc
       have Hlg:Hid (∀ cur,wr.heap[g]?=some (.cells cur 5 (0,0))→False):=hlg
       have Hlo:Hid (∀ v∈ls,ListOk wr (fun b=>w.heap.size≤b∧b<wr.heap.size) mk v):=hlo
       clear hset hlg hlo
       have hX:X g:=by rw [← HXX.out];exact Or.inr (Or.inr rfl)
       have hws:=hbt.size
       clear hc hcg ho hw
       go_wp2
       go_region_held3 (fun w'=>w'.cell? ⟨hb,2,none⟩=some (.slice (some ⟨g,0,none⟩) nl cl)∧w'.cell? ⟨hb,3,none⟩=some (.int .i64 mk)) (go_keep) ((go_at_call 152;refine (listed_any _ _).mono ?_;rintro e w' ⟨rfl,rfl⟩))
       go_wp2
       go_roundw
       case rel=>exact ⟨m+1,hlt,by go_num,_,by simp [hls],(hw'.frame (fun b hb=>Below.heap_alloc _ _ _ hb)).drew,lists_rel Hlo.out Hlg.out hws _,((hbt.setCell (Or.inl hX) _).alloc _).drew⟩
       case measure=>simp [intOf];omega
      ·obtain rfl:m=nl:=by omega
       go_wp2
       go_end0
       refine ⟨rfl,⟨ls,?_,hlo⟩,hbt⟩
       rw [List.drop_of_length_le (by omega),List.append_nil] at hw;exact hw
end Go.Proofs.YtgccjefbedpmpaaGreatDoor

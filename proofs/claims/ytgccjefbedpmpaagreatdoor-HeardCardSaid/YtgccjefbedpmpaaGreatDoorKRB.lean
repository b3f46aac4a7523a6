import Derived.Test.YtgccjefbedpmpaaGreatDoorJKeepS
import Derived.Test.YtgccjefbedpmpaaGreatDoorKRA
import Derived.WalkKit
import Derived.LaidEql
import Derived.Stop.Asserts
import Derived.RowKitTokens
import Derived.Deep.QuietTactic
import Derived.BigQuiet
import Derived.Shelf.LaysM
import Derived.Shelf.Strconv.Itoa3
import Derived.OwnWalk
import Derived.Maps.AppendAt
import Derived.ChangeKeysEq
import Derived.Deep.RegionHeld3
import Derived.Test.YtgccjefbedpmpaaGreatDoorYTk
namespace Go.Proofs.YtgccjefbedpmpaaGreatDoor
open Go.RowKit Go.Extern.Stop Go.Stop Go.Extern Go.Shelf
set_option maxRecDepth 100000
set_option maxHeartbeats 8000000
variable {B C : Nat} {f : Frm} {l : List Int} {v : Value}
theorem OwnO.base {w:World} {os:List Opn} (h:OwnO w B v os) (hc:C≤B):OwnO w C v os:=by
 refine ⟨h.1,?_⟩;rcases h.2 with h2 | ⟨g,cap,cur,h3,h4,h5⟩
 ·exact Or.inl h2
 ·exact Or.inr ⟨g,cap,cur,h3,qi hc h4,h5⟩
def gFr (B:Nat) (f:Frm) (w:World) (v:Value):Prop:=∃ s,v=.tuple #[f.val s,.nilIface]∧OwnO w B s f.ops
def bFr (v:Value):Prop:=∃ f0 x,v=.tuple #[.agg (rowOf 8 f0),x]∧((rowOf 8 f0).all (·.oneCell'))=true∧Err x
theorem frP_eq (k:Int) (l:List Int):frP (k::l)=(match vR 1073741823 l with
      | none=>none
      | some (ss,l1)=>match rgP2 k l1 with
        | none=>none
        | some ((lo,hi),l2)=>match dgP2 k l2 with
          | none=>none
          | some ((a,b,c),l3)=>match opsP k l3 with
            | none=>none
            | some (os,l4)=>some (⟨k,ss,lo,hi,a,b,c,os⟩,l4)):=by
  rw [frP]
  cases vR 1073741823 l with
  | none=>rfl
  | some y=>
    obtain ⟨ss,l1⟩:=y;unfold rgP2;dsimp only
    cases rgP k l1 with
    | none=>rfl
    | some y=>
      obtain ⟨lo,hi,l2⟩:=y;unfold dgP2;simp only [Option.map_some]
      cases dgP k l2 with
      | none=>rfl
      | some y=>
        obtain ⟨a,b,c,l3⟩:=y;rfl
theorem rparts_any (rb g off cap:Nat) (l:List Int) (w:World) (h:Rd w rb g off cap l) (hgl:g < w.heap.size) (hS:Sents w) (hT:Tens w) (hg9:15≤rb) :
  Cs 190 #[(pt rb 0)] w fun e w'=>RPost (frP l) (gFr w.heap.size) bFr rb g w e w':=by
 have hrl:=h.row.lt;have n1:w.heap.size≠rb:=by omega
 have n2:w.heap.size+1≠rb:=by omega
 have n3:w.heap.size+1≠g:=by omega
 have n4:w.heap.size≠g:=by omega
 have hB0:Bel w ((w.alloc (.cells #[I6 0,U3 0,U6 0,U6 0,U8 0,U8 0,U8 0,.slice none 0 0] 58)).alloc (.cells #[I6 0,U3 0,U6 0,U6 0,U8 0,U8 0,U8 0,.slice none 0 0] 58)):=((qj _ _).alloc (qb _) _).alloc (by simp) _
 have S0:FrS w ((w.alloc (.cells #[I6 0,U3 0,U6 0,U6 0,U8 0,U8 0,U8 0,.slice none 0 0] 58)).alloc (.cells #[I6 0,U3 0,U6 0,U6 0,U8 0,U8 0,U8 0,.slice none 0 0] 58)) rb g (fr8 0 0 0 0 0 0 0 (.slice none 0 0)) l:=by
  have hq:=RowIs.new (w.alloc (.cells #[I6 0,U3 0,U6 0,U6 0,U8 0,U8 0,U8 0,.slice none 0 0] 58)) 58 8 (fr8 0 0 0 0 0 0 0 (.slice none 0 0));rw [show (w.alloc (.cells #[I6 0,U3 0,U6 0,U6 0,U8 0,U8 0,U8 0,.slice none 0 0] 58)).heap.size=w.heap.size+1 by simp] at hq;exact ⟨(RowIs.new w 58 8 (fr8 0 0 0 0 0 0 0 (.slice none 0 0))).below ((qj _ _).alloc (qb _) _) (by simp),hq,⟨_,_,h.but hB0⟩,But.below hB0⟩
 cases l with
 | nil=>
  obtain ⟨off0,cap0,h0⟩:=S0.rd;obtain ⟨-,-,-,-,-,⟨aS,sS⟩,-,-,-⟩:=k8 hS S0.but hg9;go_enter Tryz.func190,Tryz.ntmps190
  go_wp2_with (first
   | (go_at_call 247;refine (next_nil rb g _ _ _ h0 aS sS).mono ?_;rintro e w2 ⟨rfl,k2,rfl⟩))
  refine wp_region_held_drew (S:=fun w'=>ErS w w' rb (fr8 0 0 0 0 0 0 0 (.slice none 0 0))) (by kernel_rfl) (S0.err.drewN k2).drew (fun hHeld=>?_);generalize World.drew _=wD at hHeld ⊢;refine x9 0 16 (fun _ h=>h.cells) ?_;refine ks 1 17 ?_;refine rd 2 (some 18) rfl (fun K hK=>?_);go_simp;refine (ku _ _ ⟨_,_,rfl⟩ _).mono ?_;rintro e w5 ⟨⟨xe,rfl,hxe⟩,hb5⟩;refine hK.out _ _ (hHeld.kept hb5) (fun hHeld=>?_);clear hK K;refine rd 3 none rfl (fun K hK=>?_);obtain ⟨f0,hRes,-⟩:=hHeld.res;rw [if_pos (by rfl)];refine wp_store_row 58 (.tmp 2) (.tmp 16) rfl w.heap.size (rowOf 8 (fr8 0 0 0 0 0 0 0 (.slice none 0 0))) rfl rfl _ _ hRes (by rw [rowOf_size];exact vt) (by rw [rowOf_size,rowOf_size]) (xj _ _ _ _ _ _ _ _ _ _) ?_;refine hK.out _ _ (hHeld.put _ (xj _ _ _ _ _ _ _ _ _ _)) (fun hHeld=>?_);clear hK K hRes;refine rdg 4 (some 3) ?_;refine xy ?_;go_wp2_with fail;obtain ⟨f9,hRes9,hOne9⟩:=hHeld.res;exact bodyPost_ret (ko Tryz.results190 _ _ w.heap.size 58 _ (0,0) _ _ rfl rfl hRes9 Tryz.underlying58 rfl (by rw [rowOf_size];exact vt)) rfl (RPost.no rfl ⟨f9,_,rfl,hOne9,hxe⟩ hHeld.but)
 | cons k l=>
  obtain ⟨off0,cap0,h0⟩:=S0.rd;obtain ⟨b0,b1⟩:=h.byt.head;go_enter Tryz.func190,Tryz.ntmps190
  have HR0:frP (k::l)=(match vR 1073741823 l with
   | none=>none
   | some (ss,l1)=>match rgP2 k l1 with
    | none=>none
    | some ((lo,hi),l2)=>match dgP2 k l2 with
     | none=>none
     | some ((a,b,c),l3)=>match opsP k l3 with
      | none=>none
      | some (os,l4)=>some (⟨k,ss,lo,hi,a,b,c,os⟩,l4)):=frP_eq k l
  generalize frP (k::l)=R at *
  cases hv1:vR 1073741823 l with
  | none=>
   rw [hv1] at HR0;have HR1:Hid (R=none):=HR0;clear HR0
   go_wp2_with (first
    | (go_at_call 248;refine (rvar_any _ rb g _ _ l _ hr1 hS1 hg9).mono ?_;rw [hv1];rintro e w2 ⟨⟨x,rfl,t,y,rfl⟩,hb2,hs2⟩;have E2:=S1.err.read hb2 n1 n2)
    | (go_at_call 247;refine (xg rb g _ _ k l _ h0).mono ?_;rintro e w1 ⟨rfl,h1,hb1,hs1⟩;have S1q:=S0.read hb1 h1 n1 n2;have f1c:=S1q.fb.cell (show 0 < 8 by omega);have f1f:=S1q.fb.free 0;have S1:=S1q.set (f':=fr8 k 0 0 0 0 0 0 (.slice none 0 0)) 0 (I6 k) n2 n3 (fun i hi=>by match i,hi with | 0,_=>rfl | 1,_=>rfl | 2,_=>rfl | 3,_=>rfl | 4,_=>rfl | 5,_=>rfl | 6,_=>rfl | 7,_=>rfl);obtain ⟨off1,cap1,hr1⟩:=S1.rd;have hS1:=k8 hS S1.but hg9))
   refine wp_region_held_drew (S:=fun w'=>ErS w w' rb (fr8 k 0 0 0 0 0 0 (.slice none 0 0))) (by kernel_rfl) E2.drew (fun hHeld=>?_);generalize World.drew _=wD at hHeld ⊢;refine x9 0 29 (fun _ h=>h.cells) ?_;refine ks 1 30 ?_;refine rd 2 (some 31) rfl (fun K hK=>?_);go_simp;refine (ku _ _ ⟨_,_,rfl⟩ _).mono ?_;rintro e w5 ⟨⟨xe,rfl,hxe⟩,hb5⟩;refine hK.out _ _ (hHeld.kept hb5) (fun hHeld=>?_);clear hK K;refine rd 3 none rfl (fun K hK=>?_);obtain ⟨f0,hRes,-⟩:=hHeld.res;rw [if_pos (by rfl)];refine wp_store_row 58 (.tmp 2) (.tmp 29) rfl w.heap.size (rowOf 8 (fr8 k 0 0 0 0 0 0 (.slice none 0 0))) rfl rfl _ _ hRes (by rw [rowOf_size];exact vt) (by rw [rowOf_size,rowOf_size]) (xj _ _ _ _ _ _ _ _ _ _) ?_;refine hK.out _ _ (hHeld.put _ (xj _ _ _ _ _ _ _ _ _ _)) (fun hHeld=>?_);clear hK K hRes;refine rdg 4 (some 3) ?_;refine xy ?_;go_wp2_with fail;obtain ⟨f9,hRes9,hOne9⟩:=hHeld.res;exact bodyPost_ret (ko Tryz.results190 _ _ w.heap.size 58 _ (0,0) _ _ rfl rfl hRes9 Tryz.underlying58 rfl (by rw [rowOf_size];exact vt)) rfl (RPost.no HR1.out ⟨f9,_,rfl,hOne9,hxe⟩ hHeld.but)
  | some y1=>
   obtain ⟨ss,l1⟩:=y1;rw [hv1] at HR0;dsimp only at HR0;obtain ⟨ss0,ss1⟩:0≤ss∧ss≤1073741823:=by have:=xz h.byt.tail hv1;exact ⟨this.1,this.2.1⟩
   cases hv2:rgP2 k l1 with
   | none=>
    rw [hv2] at HR0;have HR1:Hid (R=none):=HR0;clear HR0
    go_wp2_with (first
     | (go_at_call 249;refine (rrng_any k rb g _ _ l1 _ hr2' hS2 hg9).mono ?_;rw [hv2];rintro e w3 ⟨v3,rfl,⟨xa,xb,x,rfl,t,y,rfl⟩,hb3⟩;have E3q:=S2.err.read hb3 n1 n2;have f3c:=E3q.fb.cell (show 2 < 8 by omega);have f3d:=E3q.fb.cell (show 3 < 8 by omega);have f3f:=E3q.fb.free;have E3:=(E3q.set (f':=fr8 k ss xa 0 0 0 0 (.slice none 0 0)) 2 (U6 xa) (fun i hi=>by match i,hi with | 0,_=>rfl | 1,_=>rfl | 2,_=>rfl | 3,_=>rfl | 4,_=>rfl | 5,_=>rfl | 6,_=>rfl | 7,_=>rfl)).set (f':=fr8 k ss xa xb 0 0 0 (.slice none 0 0)) 3 (U6 xb) (fun i hi=>by match i,hi with | 0,_=>rfl | 1,_=>rfl | 2,_=>rfl | 3,_=>rfl | 4,_=>rfl | 5,_=>rfl | 6,_=>rfl | 7,_=>rfl))
     | (go_at_call 248;refine (rvar_any _ rb g _ _ l _ hr1 hS1 hg9).mono ?_;rw [hv1];rintro e w2 ⟨⟨rfl,off2,cap2,hr2⟩,hb2,hs2⟩;have S2q:=S1.read hb2 hr2 n1 n2;have f2c:=S2q.fb.cell (show 1 < 8 by omega);have f2f:=S2q.fb.free 1;have S2:=S2q.set (f':=fr8 k ss 0 0 0 0 0 (.slice none 0 0)) 1 (U3 ss) n2 n3 (fun i hi=>by match i,hi with | 0,_=>rfl | 1,_=>rfl | 2,_=>rfl | 3,_=>rfl | 4,_=>rfl | 5,_=>rfl | 6,_=>rfl | 7,_=>rfl);obtain ⟨off2',cap2',hr2'⟩:=S2.rd;have hS2:=k8 hS S2.but hg9;have f20:World.cell? _ ⟨w.heap.size+1,0,none⟩=some (I6 k):=S2.fb.cell (show 0 < 8 by omega))
     | (go_at_call 247;refine (xg rb g _ _ k l _ h0).mono ?_;rintro e w1 ⟨rfl,h1,hb1,hs1⟩;have S1q:=S0.read hb1 h1 n1 n2;have f1c:=S1q.fb.cell (show 0 < 8 by omega);have f1f:=S1q.fb.free 0;have S1:=S1q.set (f':=fr8 k 0 0 0 0 0 0 (.slice none 0 0)) 0 (I6 k) n2 n3 (fun i hi=>by match i,hi with | 0,_=>rfl | 1,_=>rfl | 2,_=>rfl | 3,_=>rfl | 4,_=>rfl | 5,_=>rfl | 6,_=>rfl | 7,_=>rfl);obtain ⟨off1,cap1,hr1⟩:=S1.rd;have hS1:=k8 hS S1.but hg9))
    refine wp_region_held_drew (S:=fun w'=>ErS w w' rb (fr8 k ss xa xb 0 0 0 (.slice none 0 0))) (by kernel_rfl) E3.drew (fun hHeld=>?_);generalize World.drew _=wD at hHeld ⊢;refine x9 0 47 (fun _ h=>h.cells) ?_;refine ks 1 48 ?_;refine rd 2 (some 49) rfl (fun K hK=>?_);go_simp;refine (ku _ _ ⟨_,_,rfl⟩ _).mono ?_;rintro e w5 ⟨⟨xe,rfl,hxe⟩,hb5⟩;refine hK.out _ _ (hHeld.kept hb5) (fun hHeld=>?_);clear hK K;refine rd 3 none rfl (fun K hK=>?_);obtain ⟨f0,hRes,-⟩:=hHeld.res;rw [if_pos (by rfl)];refine wp_store_row 58 (.tmp 2) (.tmp 47) rfl w.heap.size (rowOf 8 (fr8 k ss xa xb 0 0 0 (.slice none 0 0))) rfl rfl _ _ hRes (by rw [rowOf_size];exact vt) (by rw [rowOf_size,rowOf_size]) (xj _ _ _ _ _ _ _ _ _ _) ?_;refine hK.out _ _ (hHeld.put _ (xj _ _ _ _ _ _ _ _ _ _)) (fun hHeld=>?_);clear hK K hRes;refine rdg 4 (some 3) ?_;refine xy ?_;go_wp2_with fail;obtain ⟨f9,hRes9,hOne9⟩:=hHeld.res;exact bodyPost_ret (ko Tryz.results190 _ _ w.heap.size 58 _ (0,0) _ _ rfl rfl hRes9 Tryz.underlying58 rfl (by rw [rowOf_size];exact vt)) rfl (RPost.no HR1.out ⟨f9,_,rfl,hOne9,hxe⟩ hHeld.but)
   | some y2=>
    obtain ⟨⟨lo,hi⟩,l2⟩:=y2;rw [hv2] at HR0;dsimp only at HR0
    cases hv3:dgP2 k l2 with
    | none=>
     rw [hv3] at HR0;have HR1:Hid (R=none):=HR0;clear HR0
     go_wp2_with (first
      | (go_at_call 250;refine (rdig_any k rb g _ _ l2 _ hr3' (ql hgl S3.but.size) hS3 hg9).mono ?_;rw [hv3];rintro e w4 ⟨v4,rfl,⟨xa,xb,xc,x,rfl,t,y,rfl⟩,hb4⟩;have E4q:=S3.err.read hb4 n1 n2;have f4c:=E4q.fb.cell (show 4 < 8 by omega);have f4d:=E4q.fb.cell (show 5 < 8 by omega);have f4e:=E4q.fb.cell (show 6 < 8 by omega);have f4f:=E4q.fb.free;have E4:=((E4q.set (f':=fr8 k ss lo hi xa 0 0 (.slice none 0 0)) 4 (U8 xa) (fun i hi=>by match i,hi with | 0,_=>rfl | 1,_=>rfl | 2,_=>rfl | 3,_=>rfl | 4,_=>rfl | 5,_=>rfl | 6,_=>rfl | 7,_=>rfl)).set (f':=fr8 k ss lo hi xa xb 0 (.slice none 0 0)) 5 (U8 xb) (fun i hi=>by match i,hi with | 0,_=>rfl | 1,_=>rfl | 2,_=>rfl | 3,_=>rfl | 4,_=>rfl | 5,_=>rfl | 6,_=>rfl | 7,_=>rfl)).set (f':=fr8 k ss lo hi xa xb xc (.slice none 0 0)) 6 (U8 xc) (fun i hi=>by match i,hi with | 0,_=>rfl | 1,_=>rfl | 2,_=>rfl | 3,_=>rfl | 4,_=>rfl | 5,_=>rfl | 6,_=>rfl | 7,_=>rfl))
      | (go_at_call 249;refine (rrng_any k rb g _ _ l1 _ hr2' hS2 hg9).mono ?_;rw [hv2];rintro e w3 ⟨v3,rfl,⟨rfl,off3,cap3,hr3⟩,hb3⟩;have S3q:=S2.read hb3 hr3 n1 n2;have f3c:=S3q.fb.cell (show 2 < 8 by omega);have f3d:=S3q.fb.cell (show 3 < 8 by omega);have f3f:=S3q.fb.free;have S3:=(S3q.set (f':=fr8 k ss lo 0 0 0 0 (.slice none 0 0)) 2 (U6 lo) n2 n3 (fun i hi=>by match i,hi with | 0,_=>rfl | 1,_=>rfl | 2,_=>rfl | 3,_=>rfl | 4,_=>rfl | 5,_=>rfl | 6,_=>rfl | 7,_=>rfl)).set (f':=fr8 k ss lo hi 0 0 0 (.slice none 0 0)) 3 (U6 hi) n2 n3 (fun i hi=>by match i,hi with | 0,_=>rfl | 1,_=>rfl | 2,_=>rfl | 3,_=>rfl | 4,_=>rfl | 5,_=>rfl | 6,_=>rfl | 7,_=>rfl);obtain ⟨off3',cap3',hr3'⟩:=S3.rd;have hS3:=k8 hS S3.but hg9;have f30:World.cell? _ ⟨w.heap.size+1,0,none⟩=some (I6 k):=S3.fb.cell (show 0 < 8 by omega))
      | (go_at_call 248;refine (rvar_any _ rb g _ _ l _ hr1 hS1 hg9).mono ?_;rw [hv1];rintro e w2 ⟨⟨rfl,off2,cap2,hr2⟩,hb2,hs2⟩;have S2q:=S1.read hb2 hr2 n1 n2;have f2c:=S2q.fb.cell (show 1 < 8 by omega);have f2f:=S2q.fb.free 1;have S2:=S2q.set (f':=fr8 k ss 0 0 0 0 0 (.slice none 0 0)) 1 (U3 ss) n2 n3 (fun i hi=>by match i,hi with | 0,_=>rfl | 1,_=>rfl | 2,_=>rfl | 3,_=>rfl | 4,_=>rfl | 5,_=>rfl | 6,_=>rfl | 7,_=>rfl);obtain ⟨off2',cap2',hr2'⟩:=S2.rd;have hS2:=k8 hS S2.but hg9;have f20:World.cell? _ ⟨w.heap.size+1,0,none⟩=some (I6 k):=S2.fb.cell (show 0 < 8 by omega))
      | (go_at_call 247;refine (xg rb g _ _ k l _ h0).mono ?_;rintro e w1 ⟨rfl,h1,hb1,hs1⟩;have S1q:=S0.read hb1 h1 n1 n2;have f1c:=S1q.fb.cell (show 0 < 8 by omega);have f1f:=S1q.fb.free 0;have S1:=S1q.set (f':=fr8 k 0 0 0 0 0 0 (.slice none 0 0)) 0 (I6 k) n2 n3 (fun i hi=>by match i,hi with | 0,_=>rfl | 1,_=>rfl | 2,_=>rfl | 3,_=>rfl | 4,_=>rfl | 5,_=>rfl | 6,_=>rfl | 7,_=>rfl);obtain ⟨off1,cap1,hr1⟩:=S1.rd;have hS1:=k8 hS S1.but hg9))
     refine wp_region_held_drew (S:=fun w'=>ErS w w' rb (fr8 k ss lo hi xa xb xc (.slice none 0 0))) (by kernel_rfl) E4.drew (fun hHeld=>?_);generalize World.drew _=wD at hHeld ⊢;refine x9 0 60 (fun _ h=>h.cells) ?_;refine ks 1 61 ?_;refine rd 2 (some 62) rfl (fun K hK=>?_);go_simp;refine (ku _ _ ⟨_,_,rfl⟩ _).mono ?_;rintro e w5 ⟨⟨xe,rfl,hxe⟩,hb5⟩;refine hK.out _ _ (hHeld.kept hb5) (fun hHeld=>?_);clear hK K;refine rd 3 none rfl (fun K hK=>?_);obtain ⟨f0,hRes,-⟩:=hHeld.res;rw [if_pos (by rfl)];refine wp_store_row 58 (.tmp 2) (.tmp 60) rfl w.heap.size (rowOf 8 (fr8 k ss lo hi xa xb xc (.slice none 0 0))) rfl rfl _ _ hRes (by rw [rowOf_size];exact vt) (by rw [rowOf_size,rowOf_size]) (xj _ _ _ _ _ _ _ _ _ _) ?_;refine hK.out _ _ (hHeld.put _ (xj _ _ _ _ _ _ _ _ _ _)) (fun hHeld=>?_);clear hK K hRes;refine rdg 4 (some 3) ?_;refine xy ?_;go_wp2_with fail;obtain ⟨f9,hRes9,hOne9⟩:=hHeld.res;exact bodyPost_ret (ko Tryz.results190 _ _ w.heap.size 58 _ (0,0) _ _ rfl rfl hRes9 Tryz.underlying58 rfl (by rw [rowOf_size];exact vt)) rfl (RPost.no HR1.out ⟨f9,_,rfl,hOne9,hxe⟩ hHeld.but)
    | some y3=>
     obtain ⟨⟨da,db,dc⟩,l3⟩:=y3;rw [hv3] at HR0;dsimp only at HR0
     cases hv4:opsP k l3 with
     | none=>
      rw [hv4] at HR0;have HR1:Hid (R=none):=HR0;clear HR0
      go_wp2_with (first
       | (go_at_call 251;refine (rops_any k rb g _ _ l3 _ hr4' (ql hgl S4.but.size) hS4 hT4 hg9).mono ?_;rw [hv4];rintro e w5 ⟨v5,rfl,⟨x,rfl,t,y,rfl⟩,hb5⟩;have E5q:=S4.err.read hb5 n1 n2;have f5c:=E5q.fb.cell (show 7 < 8 by omega);have f5f:=E5q.fb.free 7;have E5:=E5q.set (f':=fr8 k ss lo hi da db dc (.slice none 0 0)) 7 (.slice none 0 0) (fun i hi=>by match i,hi with | 0,_=>rfl | 1,_=>rfl | 2,_=>rfl | 3,_=>rfl | 4,_=>rfl | 5,_=>rfl | 6,_=>rfl | 7,_=>rfl))
       | (go_at_call 250;refine (rdig_any k rb g _ _ l2 _ hr3' (ql hgl S3.but.size) hS3 hg9).mono ?_;rw [hv3];rintro e w4 ⟨v4,rfl,⟨rfl,off4,cap4,hr4⟩,hb4⟩;have S4q:=S3.read hb4 hr4 n1 n2;have f4c:=S4q.fb.cell (show 4 < 8 by omega);have f4d:=S4q.fb.cell (show 5 < 8 by omega);have f4e:=S4q.fb.cell (show 6 < 8 by omega);have f4f:=S4q.fb.free;have S4:=((S4q.set (f':=fr8 k ss lo hi da 0 0 (.slice none 0 0)) 4 (U8 da) n2 n3 (fun i hi=>by match i,hi with | 0,_=>rfl | 1,_=>rfl | 2,_=>rfl | 3,_=>rfl | 4,_=>rfl | 5,_=>rfl | 6,_=>rfl | 7,_=>rfl)).set (f':=fr8 k ss lo hi da db 0 (.slice none 0 0)) 5 (U8 db) n2 n3 (fun i hi=>by match i,hi with | 0,_=>rfl | 1,_=>rfl | 2,_=>rfl | 3,_=>rfl | 4,_=>rfl | 5,_=>rfl | 6,_=>rfl | 7,_=>rfl)).set (f':=fr8 k ss lo hi da db dc (.slice none 0 0)) 6 (U8 dc) n2 n3 (fun i hi=>by match i,hi with | 0,_=>rfl | 1,_=>rfl | 2,_=>rfl | 3,_=>rfl | 4,_=>rfl | 5,_=>rfl | 6,_=>rfl | 7,_=>rfl);obtain ⟨off4',cap4',hr4'⟩:=S4.rd;have hS4:=k8 hS S4.but hg9;have hT4:=tens_but hT S4.but hg9;have f40:World.cell? _ ⟨w.heap.size+1,0,none⟩=some (I6 k):=S4.fb.cell (show 0 < 8 by omega))
       | (go_at_call 249;refine (rrng_any k rb g _ _ l1 _ hr2' hS2 hg9).mono ?_;rw [hv2];rintro e w3 ⟨v3,rfl,⟨rfl,off3,cap3,hr3⟩,hb3⟩;have S3q:=S2.read hb3 hr3 n1 n2;have f3c:=S3q.fb.cell (show 2 < 8 by omega);have f3d:=S3q.fb.cell (show 3 < 8 by omega);have f3f:=S3q.fb.free;have S3:=(S3q.set (f':=fr8 k ss lo 0 0 0 0 (.slice none 0 0)) 2 (U6 lo) n2 n3 (fun i hi=>by match i,hi with | 0,_=>rfl | 1,_=>rfl | 2,_=>rfl | 3,_=>rfl | 4,_=>rfl | 5,_=>rfl | 6,_=>rfl | 7,_=>rfl)).set (f':=fr8 k ss lo hi 0 0 0 (.slice none 0 0)) 3 (U6 hi) n2 n3 (fun i hi=>by match i,hi with | 0,_=>rfl | 1,_=>rfl | 2,_=>rfl | 3,_=>rfl | 4,_=>rfl | 5,_=>rfl | 6,_=>rfl | 7,_=>rfl);obtain ⟨off3',cap3',hr3'⟩:=S3.rd;have hS3:=k8 hS S3.but hg9;have f30:World.cell? _ ⟨w.heap.size+1,0,none⟩=some (I6 k):=S3.fb.cell (show 0 < 8 by omega))
       | (go_at_call 248;refine (rvar_any _ rb g _ _ l _ hr1 hS1 hg9).mono ?_;rw [hv1];rintro e w2 ⟨⟨rfl,off2,cap2,hr2⟩,hb2,hs2⟩;have S2q:=S1.read hb2 hr2 n1 n2;have f2c:=S2q.fb.cell (show 1 < 8 by omega);have f2f:=S2q.fb.free 1;have S2:=S2q.set (f':=fr8 k ss 0 0 0 0 0 (.slice none 0 0)) 1 (U3 ss) n2 n3 (fun i hi=>by match i,hi with | 0,_=>rfl | 1,_=>rfl | 2,_=>rfl | 3,_=>rfl | 4,_=>rfl | 5,_=>rfl | 6,_=>rfl | 7,_=>rfl);obtain ⟨off2',cap2',hr2'⟩:=S2.rd;have hS2:=k8 hS S2.but hg9;have f20:World.cell? _ ⟨w.heap.size+1,0,none⟩=some (I6 k):=S2.fb.cell (show 0 < 8 by omega))
       | (go_at_call 247;refine (xg rb g _ _ k l _ h0).mono ?_;rintro e w1 ⟨rfl,h1,hb1,hs1⟩;have S1q:=S0.read hb1 h1 n1 n2;have f1c:=S1q.fb.cell (show 0 < 8 by omega);have f1f:=S1q.fb.free 0;have S1:=S1q.set (f':=fr8 k 0 0 0 0 0 0 (.slice none 0 0)) 0 (I6 k) n2 n3 (fun i hi=>by match i,hi with | 0,_=>rfl | 1,_=>rfl | 2,_=>rfl | 3,_=>rfl | 4,_=>rfl | 5,_=>rfl | 6,_=>rfl | 7,_=>rfl);obtain ⟨off1,cap1,hr1⟩:=S1.rd;have hS1:=k8 hS S1.but hg9))
      refine wp_region_held_drew (S:=fun w'=>ErS w w' rb (fr8 k ss lo hi da db dc (.slice none 0 0))) (by kernel_rfl) E5.drew (fun hHeld=>?_);generalize World.drew _=wD at hHeld ⊢;refine x9 0 73 (fun _ h=>h.cells) ?_;refine ks 1 74 ?_;refine rd 2 (some 75) rfl (fun K hK=>?_);go_simp;refine (ku _ _ ⟨_,_,rfl⟩ _).mono ?_;rintro e w5 ⟨⟨xe,rfl,hxe⟩,hb5⟩;refine hK.out _ _ (hHeld.kept hb5) (fun hHeld=>?_);clear hK K;refine rd 3 none rfl (fun K hK=>?_);obtain ⟨f0,hRes,-⟩:=hHeld.res;rw [if_pos (by rfl)];refine wp_store_row 58 (.tmp 2) (.tmp 73) rfl w.heap.size (rowOf 8 (fr8 k ss lo hi da db dc (.slice none 0 0))) rfl rfl _ _ hRes (by rw [rowOf_size];exact vt) (by rw [rowOf_size,rowOf_size]) (xj _ _ _ _ _ _ _ _ _ _) ?_;refine hK.out _ _ (hHeld.put _ (xj _ _ _ _ _ _ _ _ _ _)) (fun hHeld=>?_);clear hK K hRes;refine rdg 4 (some 3) ?_;refine xy ?_;go_wp2_with fail;obtain ⟨f9,hRes9,hOne9⟩:=hHeld.res;exact bodyPost_ret (ko Tryz.results190 _ _ w.heap.size 58 _ (0,0) _ _ rfl rfl hRes9 Tryz.underlying58 rfl (by rw [rowOf_size];exact vt)) rfl (RPost.no HR1.out ⟨f9,_,rfl,hOne9,hxe⟩ hHeld.but)
     | some y4=>
      obtain ⟨os,l4⟩:=y4;rw [hv4] at HR0;dsimp only at HR0;have HR1:Hid (R=_):=HR0;clear HR0
      go_wp2_with (first
       | (go_at_call 251;refine (rops_any k rb g _ _ l3 _ hr4' (ql hgl S4.but.size) hS4 hT4 hg9).mono ?_;rw [hv4];rintro e w5 ⟨v5,rfl,⟨⟨sl,rfl,hown⟩,off5,cap5,hr5⟩,hb5⟩;obtain ⟨ao,co,rfl,-⟩:=xt hown;have S5q:=S4.read hb5 hr5 n1 n2;have f5c:=S5q.fb.cell (show 7 < 8 by omega);have f5f:=S5q.fb.free 7;have S5:=S5q.set (f':=fr8 k ss lo hi da db dc (.slice ao os.length co)) 7 (.slice ao os.length co) n2 n3 (fun i hi=>by match i,hi with | 0,_=>rfl | 1,_=>rfl | 2,_=>rfl | 3,_=>rfl | 4,_=>rfl | 5,_=>rfl | 6,_=>rfl | 7,_=>rfl);obtain ⟨j0,j1,j2,j3,j4,j5,j6,j7⟩:=S5.cells;simp only [fr8] at j0 j1 j2 j3 j4 j5 j6 j7;have R5:=S5.res)
       | (go_at_call 250;refine (rdig_any k rb g _ _ l2 _ hr3' (ql hgl S3.but.size) hS3 hg9).mono ?_;rw [hv3];rintro e w4 ⟨v4,rfl,⟨rfl,off4,cap4,hr4⟩,hb4⟩;have S4q:=S3.read hb4 hr4 n1 n2;have f4c:=S4q.fb.cell (show 4 < 8 by omega);have f4d:=S4q.fb.cell (show 5 < 8 by omega);have f4e:=S4q.fb.cell (show 6 < 8 by omega);have f4f:=S4q.fb.free;have S4:=((S4q.set (f':=fr8 k ss lo hi da 0 0 (.slice none 0 0)) 4 (U8 da) n2 n3 (fun i hi=>by match i,hi with | 0,_=>rfl | 1,_=>rfl | 2,_=>rfl | 3,_=>rfl | 4,_=>rfl | 5,_=>rfl | 6,_=>rfl | 7,_=>rfl)).set (f':=fr8 k ss lo hi da db 0 (.slice none 0 0)) 5 (U8 db) n2 n3 (fun i hi=>by match i,hi with | 0,_=>rfl | 1,_=>rfl | 2,_=>rfl | 3,_=>rfl | 4,_=>rfl | 5,_=>rfl | 6,_=>rfl | 7,_=>rfl)).set (f':=fr8 k ss lo hi da db dc (.slice none 0 0)) 6 (U8 dc) n2 n3 (fun i hi=>by match i,hi with | 0,_=>rfl | 1,_=>rfl | 2,_=>rfl | 3,_=>rfl | 4,_=>rfl | 5,_=>rfl | 6,_=>rfl | 7,_=>rfl);obtain ⟨off4',cap4',hr4'⟩:=S4.rd;have hS4:=k8 hS S4.but hg9;have hT4:=tens_but hT S4.but hg9;have f40:World.cell? _ ⟨w.heap.size+1,0,none⟩=some (I6 k):=S4.fb.cell (show 0 < 8 by omega))
       | (go_at_call 249;refine (rrng_any k rb g _ _ l1 _ hr2' hS2 hg9).mono ?_;rw [hv2];rintro e w3 ⟨v3,rfl,⟨rfl,off3,cap3,hr3⟩,hb3⟩;have S3q:=S2.read hb3 hr3 n1 n2;have f3c:=S3q.fb.cell (show 2 < 8 by omega);have f3d:=S3q.fb.cell (show 3 < 8 by omega);have f3f:=S3q.fb.free;have S3:=(S3q.set (f':=fr8 k ss lo 0 0 0 0 (.slice none 0 0)) 2 (U6 lo) n2 n3 (fun i hi=>by match i,hi with | 0,_=>rfl | 1,_=>rfl | 2,_=>rfl | 3,_=>rfl | 4,_=>rfl | 5,_=>rfl | 6,_=>rfl | 7,_=>rfl)).set (f':=fr8 k ss lo hi 0 0 0 (.slice none 0 0)) 3 (U6 hi) n2 n3 (fun i hi=>by match i,hi with | 0,_=>rfl | 1,_=>rfl | 2,_=>rfl | 3,_=>rfl | 4,_=>rfl | 5,_=>rfl | 6,_=>rfl | 7,_=>rfl);obtain ⟨off3',cap3',hr3'⟩:=S3.rd;have hS3:=k8 hS S3.but hg9;have f30:World.cell? _ ⟨w.heap.size+1,0,none⟩=some (I6 k):=S3.fb.cell (show 0 < 8 by omega))
       | (go_at_call 248;refine (rvar_any _ rb g _ _ l _ hr1 hS1 hg9).mono ?_;rw [hv1];rintro e w2 ⟨⟨rfl,off2,cap2,hr2⟩,hb2,hs2⟩;have S2q:=S1.read hb2 hr2 n1 n2;have f2c:=S2q.fb.cell (show 1 < 8 by omega);have f2f:=S2q.fb.free 1;have S2:=S2q.set (f':=fr8 k ss 0 0 0 0 0 (.slice none 0 0)) 1 (U3 ss) n2 n3 (fun i hi=>by match i,hi with | 0,_=>rfl | 1,_=>rfl | 2,_=>rfl | 3,_=>rfl | 4,_=>rfl | 5,_=>rfl | 6,_=>rfl | 7,_=>rfl);obtain ⟨off2',cap2',hr2'⟩:=S2.rd;have hS2:=k8 hS S2.but hg9;have f20:World.cell? _ ⟨w.heap.size+1,0,none⟩=some (I6 k):=S2.fb.cell (show 0 < 8 by omega))
       | (go_at_call 247;refine (xg rb g _ _ k l _ h0).mono ?_;rintro e w1 ⟨rfl,h1,hb1,hs1⟩;have S1q:=S0.read hb1 h1 n1 n2;have f1c:=S1q.fb.cell (show 0 < 8 by omega);have f1f:=S1q.fb.free 0;have S1:=S1q.set (f':=fr8 k 0 0 0 0 0 0 (.slice none 0 0)) 0 (I6 k) n2 n3 (fun i hi=>by match i,hi with | 0,_=>rfl | 1,_=>rfl | 2,_=>rfl | 3,_=>rfl | 4,_=>rfl | 5,_=>rfl | 6,_=>rfl | 7,_=>rfl);obtain ⟨off1,cap1,hr1⟩:=S1.rd;have hS1:=k8 hS S1.but hg9)
       | (refine wpList_store_row rfl 58 (.tmp 2) (.tmp 76) rfl w.heap.size _ rfl rfl _ _ R5 (by exact vt) (by rw [rowOf_size];rfl) (by simp [Value.oneCell']) ?_))
      obtain ⟨off6,cap6,hr6⟩:=S5.rd;have hS4s:=S4.but.size;have hf4:=S4.fb.lt
      have hw6:OwnO ((w5.setCell ⟨w.heap.size+1,7,none⟩ (.slice ao os.length co)).setRow w.heap.size (rowOf 8 (fr8 k ss lo hi da db dc (.slice ao os.length co)))) w.heap.size (.slice ao os.length co) os:=by
       refine OwnO.base (kp hown fun y hy=>?_) hS4s;have hyl:=(hown.lt y hy).1;exact (setRow_other _ _ _ _ (by omega)).trans (heap_setCell_other _ _ _ _ (show y≠w.heap.size+1 by omega))
      exact bodyPost_ret (ko Tryz.results190 _ _ w.heap.size 58 _ (0,0) _ _ rfl rfl (R5.setRow (fr8 k ss lo hi da db dc (.slice ao os.length co))) Tryz.underlying58 rfl (by rw [rowOf_size];exact vt)) rfl (RPost.yes HR1.out ⟨_,rfl,hw6⟩ (hr6.setRow n1 n4 _) (S5.but.setRow (qb _) _))
theorem isTO (v:Value) (w:World):(ReflectliteType.typeOf #[.iface 435 v]).run Tryz.prog w=.ok (.iface 330 (.agg #[(pt 15 435)])) w:=by kernel_rfl
theorem isCm (w:World):((ReflectliteType.method fun t=>do Rtype.noPackHeld "Comparable" t;(fun a=>Value.bool a.comparable) <$> typeInfo t) #[.agg #[(pt 15 435)]]).run Tryz.prog w=.ok (.bool true) w:=by kernel_rfl
theorem isMC (v:Value) (w:World):(Go.method 566 330 v "Comparable").run Tryz.prog w=.ok (375,v) w:=by kernel_rfl
theorem isCo:(Tryz.prog.info? 435).map (·.comparable)=some true:=by kernel_rfl
theorem isSz:(Tryz.prog.info? 454).map (·.size)=some 1:=by kernel_rfl
theorem isSame (a:Addr) (w:World):Cs 252 #[.iface 435 (.pointer (some a)),.iface 435 (.pointer (some a))] w fun e w'=>e=.returned (.bool true)∧w'=w:=by
 obtain ⟨i,hi,hcmp⟩:=yp.1 isCo;obtain ⟨j,hj,hjs⟩:=yp.1 isSz;have h1:=@run_callFunc_extern Tryz.prog 244 _ ReflectliteType.typeOf Tryz.func244 (by kernel_rfl) (by kernel_rfl) (by kernel_rfl) (by kernel_rfl);have h2:=@run_callFunc_extern Tryz.prog 375 _ (ReflectliteType.method fun t=>do Rtype.noPackHeld "Comparable" t;pure (.bool (← typeInfo t).comparable)) Tryz.func375 (by kernel_rfl) (by kernel_rfl) (by kernel_rfl) (by kernel_rfl);have f1:=isTO;have f2:=isCm;have f3:=isMC;have heq:=run_eql_iface_ptr_same (P:=Tryz.prog) w a Tryz.underlying123 Tryz.underlying435 hi hcmp hj;go_enter Tryz.func252,Tryz.ntmps252;go_wp2;refine wp_loop_rounds 1 ?_;rw [rounds_succ];go_wp2;go_ret;exact ⟨rfl,rfl⟩
theorem isNone (b:Addr) (w:World):Cs 252 #[.nilIface,.iface 435 (.pointer (some b))] w fun e w'=>e=.returned (.bool false)∧w'=w:=by
 have hn:=run_eql_iface_nil_left (P:=Tryz.prog) w 435 (.pointer (some b)) Tryz.underlying123;go_enter Tryz.func252,Tryz.ntmps252;go_wp2;go_ret;exact ⟨rfl,rfl⟩
theorem rend_nil (rb g off cap:Nat) (w:World) (h:Rd w rb g off cap []) (hS:Sents w) :
  Cs 191 #[(pt rb 0)] w fun e w'=>e=.returned .nilIface∧But (fun x=>x=rb) w w'∧w'.heap.size=w.heap.size:=by
 obtain ⟨-,-,-,-,-,⟨aS,sS⟩,-,-,-⟩:=hS;go_enter Tryz.func191,Tryz.ntmps191
 go_wp2_with (first
  | (go_at_call 247;refine (next_nil rb g off cap w h aS sS).mono ?_;rintro e w1 ⟨rfl,k1,rfl⟩)
  | (go_at_call 252;refine (isSame aS _).mono ?_;rintro e w2 ⟨rfl,rfl⟩))
 go_ret;exact ⟨rfl,(But.refl _ _).drewN _,rfl⟩
theorem rend_cons (rb g off cap:Nat) (b:Int) (l:List Int) (w:World) (h:Rd w rb g off cap (b::l)) (hS:Sents w) (hg9:15≤rb) :
  Cs 191 #[(pt rb 0)] w fun e w'=>(∃ x,e=.returned x∧Err x)∧But (fun x=>x=rb) w w'∧w'.heap.size=w.heap.size:=by
 go_enter Tryz.func191,Tryz.ntmps191
 go_wp2_with (first
  | (go_at_call 247;refine (xg rb g off cap b l w h).mono ?_;rintro e w1 ⟨rfl,h1,hb1,hs1⟩;obtain ⟨-,-,-,-,-,⟨aS,sS⟩,⟨aM,sM⟩,-,-⟩:=k8 hS hb1 hg9)
  | (go_at_call 252;refine (isNone aS _).mono ?_;rintro e w2 ⟨rfl,hw2⟩;obtain rfl:=hw2.symm))
 go_ret;exact ⟨⟨_,rfl,_,_,rfl⟩,hb1,hs1⟩
theorem osB_byt:∀ os:List Opn,(∀ o∈os,OpW o)→Byt (osB os):=by
 intro os
 induction os with
 | nil=>intro _;exact Byt.nil
 | cons o os ih=>
  intro h;have ho:=h o (qy ..);refine Byt.app (Byt.cons ho.kd ((vn_byt _ _ (qb _)).app ((vn_byt _ _ (qb _)).app ((vn_byt _ _ (qb _)).app ((vn_byt _ _ (qb _)).app ?_))))) (ih fun x hx=>h x (zb _ hx));split
  ·exact vn_byt _ _ (qb _)
  ·exact Byt.nil
theorem frB_byt (h:FrW f) (hd:Byt [f.d0,f.d1,f.d2]):Byt (frB f):=by
 have hk:=h.kd;have hn:=h.n.1;refine Byt.cons (by omega) ((vn_byt _ _ (qb _)).app (Byt.app ?_ (Byt.app ?_ ?_)))
 ·split
  ·exact (vn_byt _ _ (qb _)).app (vn_byt _ _ (qb _))
  ·exact Byt.nil
 ·split
  ·exact hd
  ·exact Byt.nil
 ·split
  ·exact Byt.cons (by omega) (osB_byt _ h.ops)
  ·exact Byt.nil
structure FrT (f:Frm):Prop where
 lo:0≤f.lo
 rf:∀ o∈f.ops,0≤o.rf
 dg:Byt [f.d0,f.d1,f.d2]
def packL (f:Frm):List Int:=frB f++chk (strOfNums (frB f))
def Good (f:Frm) (l:List Int):Prop:=okFrm f=true∧FrT f∧l=packL f
theorem Good.w (h:Good f l):FrW f:=okFrm_w h.1 h.2.1.lo h.2.1.rf
theorem Good.byt (h:Good f l):Byt (frB f):=frB_byt h.w h.2.1.dg
theorem Good.len (h:Good f l):l.length=(frB f).length+3:=by rw [h.2.2,packL,qe];rfl
theorem Good.body (h:Good f l):l.take (l.length-3)=frB f∧l.drop (l.length-3)=chk (strOfNums (frB f)):=by
 have e:=h.len;rw [show l.length-3=(frB f).length by omega,h.2.2,packL];exact ⟨j8 rfl,List.drop_left' rfl⟩
theorem Good.parse (h:Good f l):frP (l.take (l.length-3))=some (f,[]):=by
 rw [h.body.1];exact frP_complete h.w
theorem good_of_parse (hb:Byt l) (h:frP (l.take (l.length-3))=some (f,[])) (hc:l.drop (l.length-3)=chk (strOfNums (l.take (l.length-3)))) (hok:okFrm f=true):Good f l:=by
 have hbt:Byt (l.take (l.length-3)):=fun x hx=>hb x (jb hx)
 have hk:1≤f.kd∧f.kd≤5:=by
  unfold okFrm nOk at hok;simp only [qx] at hok;have:=hok.1;split at this
  ·omega
  ·split at this
   ·omega
   ·split at this
    ·omega
    ·split at this
     ·omega
     ·cases this
 obtain ⟨hw,e⟩:=frP_sound hbt h hk
 have hd:Byt [f.d0,f.d1,f.d2]:=by
  by_cases e1:f.kd=1
  ·rw [e] at hbt;unfold frB at hbt;rw [if_pos e1] at hbt;have:=hbt.tail.right.right;exact fun x hx=>this x (zh _ hx)
  ·obtain ⟨q1,q2,q3⟩:=hw.dg e1;rw [q1,q2,q3];exact Byt.nil.cons (by omega) |>.cons (by omega) |>.cons (by omega)
 refine ⟨hok,⟨hw.lo.1,fun o ho=>(hw.ops o ho).rf.1,hd⟩,?_⟩;rw [packL,← e,← hc,jh]
theorem info3b:(Tryz.prog.info? 49).map (·.size)=some 3:=by kernel_rfl
theorem Qz (v:Value) (s:ByteArray) (w:World) (H:∀ W,Bel w W→Cs 117 #[v] W fun e w'=>e=.returned (.agg (rowOf 32 fun n=>U8 (dig s n)))∧Bel W w') :
  Cs 185 #[v] w fun e w'=>e=.returned (.agg #[U8 (dig s 0),U8 (dig s 1),U8 (dig s 2)])∧Bel w w':=by
 have HH:Hid (∀ W,Bel w W→Cs 117 #[v] W fun e w'=>e=.returned (.agg (rowOf 32 fun n=>U8 (dig s n)))∧Bel W w'):=H;clear H;go_enter Tryz.func185,Tryz.ntmps185;have hz:Bel w (w.alloc (.cells #[U8 0,U8 0,U8 0] 49)):=(qj _ _).alloc (qb _) _
 go_wp2_with (first
  | (go_at_call 117;refine (HH.out _ hz).mono ?_;rintro e w1 ⟨rfl,hb1⟩;have hr1:=RowIs.new w1 137 32 fun _=>U8 0;have hD:RowIs (World.setRow (w1.alloc (.cells (rowOf 32 fun _=>U8 0) 137)) w1.heap.size (rowOf 32 fun n=>U8 (dig s n))) w1.heap.size 137 32 (fun n=>U8 (dig s n)):=hr1.setRow _;have c0:=hD.cell (show 0 < 32 by omega);have c1:=hD.cell (show 1 < 32 by omega);have c2:=hD.cell (show 2 < 32 by omega);have hB3:Bel w1 (World.setRow (w1.alloc (.cells (rowOf 32 fun _=>U8 0) 137)) w1.heap.size (rowOf 32 fun n=>U8 (dig s n))):=kn ((qj _ _).alloc (qb _) _) (qb _) _;have q3:=(RowIs.new w 49 3 fun _=>U8 0).below hb1 (by simp);have r3:=q3.below hB3 q3.lt;rw [← z32lit] at c0 c1 c2)
  | (refine wpList_store_row rfl 137 (.tmp 3) (.tmp 5) rfl w1.heap.size _ rfl rfl _ _ hr1 (by rw [rowOf_size];exact info90) (by rw [rowOf_size,rowOf_size]) (ints_one _ _ _) ?_)
  | (refine wpList_store_row rfl 49 (.tmp 2) (.tmp 12) rfl w.heap.size _ rfl rfl _ _ r3 info3b (by rw [rowOf_size];rfl) (by simp [Value.oneCell']) ?_))
 have hB1:=hz.trans (hb1.mono hz.size);have hB4:=hB1.trans (hB3.mono hB1.size);exact bodyPost_ret (v:=.agg #[U8 (dig s 0),U8 (dig s 1),U8 (dig s 2)]) (results_cell_row Tryz.results185 _ _ w.heap.size 49 _ (0,0) _ rfl (r3.setRow (fun j=>match j with | 0=>U8 (dig s 0) | 1=>U8 (dig s 1) | _=>U8 (dig s 2))) Tryz.underlying49 rfl info3b) rfl ⟨rfl,kn hB4 (qb _) _⟩
theorem OwnB.base {w:World} (h:OwnB w B v l) (hc:C≤B):OwnB w C v l:=by
 refine ⟨h.1,?_⟩;rcases h.2 with h2 | ⟨g,cap,cur,h3,h4,h5⟩
 ·exact Or.inl h2
 ·exact Or.inr ⟨g,cap,cur,h3,qi hc h4,h5⟩
structure FrmT (f:Frm):Prop where
 kd:-9223372036854775808≤f.kd∧f.kd≤9223372036854775807
 ss:0≤f.ss∧f.ss < 4294967296
 lo:0≤f.lo∧f.lo < 18446744073709551616
 hi:0≤f.hi∧f.hi < 18446744073709551616
 dg:Byt [f.d0,f.d1,f.d2]
 ops:∀ o∈f.ops,OpT o
theorem FrmT.t (h:FrmT f):FrT f:=⟨h.lo.1,fun o ho=>(h.ops o ho).rf.1,h.dg⟩
theorem opsOk_ok {k lo hi:Int}:∀ (os:List Opn) (p:Int),opsOk k lo hi p os=true→∀ o∈os,o.ok=true:=by
 intro os
 induction os with
 | nil=>intro p _ o h;cases h
 | cons o os ih=>
  intro p h x hx;unfold opsOk at h;simp only [qx] at h;rcases qu.1 hx with rfl | hx
  ·exact h.1.1
  ·exact ih _ h.2.2 x hx
theorem osB_len:∀ os:List Opn,(∀ o∈os,OpW o)→(osB os).length≤os.length*51:=by
 intro os
 induction os with
 | nil=>intro _;simp [osB]
 | cons o os ih=>
  intro h;have ho:=h o (qy ..);have s1:=(vx 9 o.cl.toNat (by have:=ho.cl;omega)).2;have s2:=(vx 9 o.ck.toNat (by have:=ho.ck;omega)).2;have s3:=(vx 9 o.st.toNat (by have:=ho.st;omega)).2;have s4:=(vx 9 o.rf.toNat (by have:=ho.rf;omega)).2;have s5:=(vx 9 o.ch.toNat (by have:=ho.ch;omega)).2;have:=ih fun x hx=>h x (zb _ hx);have e:(if o.kd=1 then vn o.ch.toNat else []).length≤10:=by split;omega;simp
  simp only [osB,opB,qe,qp];omega
theorem osB_app (a b:List Opn):osB (a++b)=osB a++osB b:=by
 induction a with
 | nil=>rfl
 | cons o a ih=>simp [osB,ih,List.append_assoc]
theorem osB_take (os:List Opn) {i:Nat} (h:i < os.length):osB (os.take (i+1))=osB (os.take i)++opB os[i]:=by
 rw [zk h,osB_app];simp [osB]
theorem dig3_cells {w:World} {g:Nat} {a b c:Int} (h4:w.cell? (Ad g 4)=some (U8 a)) (h5:w.cell? (Ad g 5)=some (U8 b)) (h6:w.cell? (Ad g 6)=some (U8 c)):∀ j u,(u8s [a,b,c])[j]?=some u→w.cell? (((Ad g 4):Addr).add j)=some u:=by
 intro j u h
 match j,h with
 | 0,h=>cases h;exact h4
 | 1,h=>cases h;exact h5
 | 2,h=>cases h;exact h6
theorem chk_cells (w:World) (s:ByteArray):∀ j u,(u8s (chk s))[j]?=some u→(w.alloc (.cells #[U8 (dig s 0),U8 (dig s 1),U8 (dig s 2)] 49)).cell? (((Ad w.heap.size 0):Addr).add j)=some u:=by
 intro j u h
 match j,h with
 | 0,h=>cases h;exact (cell_of_row _ _ _ _ _ _ (heap_alloc_new w _)).trans rfl
 | 1,h=>cases h;exact (cell_of_row _ _ _ _ _ _ (heap_alloc_new w _)).trans rfl
 | 2,h=>cases h;exact (cell_of_row _ _ _ _ _ _ (heap_alloc_new w _)).trans rfl
theorem OwnB.alloc {w:World} (h:OwnB w B v l) (o:Obj):OwnB (w.alloc o) B v l:=zg h o
theorem wbytes_good (f:Frm) (a:Option Addr) (cap:Nat) (hT:FrmT f) (w:World) (hE:Env w) (hO:OpsIs w a f.ops) (hok:okFrm f=true) :
  Cs 107 #[f.val (.slice a f.ops.length cap)] w fun e w'=>(∃ v,e=.returned v∧OwnB w' w.heap.size v (packL f))∧Bel w w':=by
 have hW:=okFrm_w hok hT.t.lo hT.t.rf
 have hop:∀ o∈f.ops,o.ok=true:=by
  rw [okFrm_eq] at hok;simp only [qx] at hok;exact opsOk_ok _ _ hok.2.2.2.2
 have hby:=frB_byt hW hT.dg;obtain ⟨k,ss,lo,hi,d0,d1,d2,os⟩:=f;unfold Frm.val;dsimp only at *;have hz:Bel w (w.alloc (.cells #[I6 k,U3 ss,U6 lo,U6 hi,U8 d0,U8 d1,U8 d2,.slice a os.length cap] 58)):=(qj _ _).alloc (qb _) _;obtain ⟨⟨k1,k2⟩,⟨a1,b1⟩,⟨a2,b2,c2⟩,⟨a3,b3,c3⟩,hd,⟨n1,n2⟩,ho⟩:=hW;dsimp only at *;obtain ⟨i0,hi0,hz0,hz1,hz2⟩:=info_parts info5;have hk:k=1∨k=2∨k=3∨k=4∨k=5:=by omega
 rcases hk with rfl | rfl | rfl | rfl | rfl
 ·skip;clear hd;clear c2 c3;obtain rfl:=n2 (by decide);have Hr:Hid (∀ W,Cs 182 #[I6 1] W fun e w'=>e=.returned (.bool true)∧w'=W):=xn 1;have Ho:Hid (∀ W,Cs 183 #[I6 1] W fun e w'=>e=.returned (.bool false)∧w'=W):=hasOps_any 1;have hzs:(w.alloc (.cells #[I6 1,U3 ss,U6 lo,U6 hi,U8 d0,U8 d1,U8 d2,.slice a 0 cap] 58)).heap.size=w.heap.size+1:=by simp
  have x1:IntKind.u64.wrap ss=ss:=u64r _ (by omega);have s1:=(vx 9 ss.toNat (by omega)).2;have s2:=(vx 9 lo.toNat (by omega)).2;have s3:=(vx 9 hi.toNat (by omega)).2;have HOW:Hid (∀ o∈([]:List Opn),OpW o):=ho;have HE:Hid (∀ W,Below (w.heap.size+1) (w.alloc (.cells #[I6 1,U3 ss,U6 lo,U6 hi,U8 d0,U8 d1,U8 d2,.slice a 0 cap] 58)) W→Env W):=fun W hb=>(hE.below hz).below (by have q:=hb;rw [← hzs] at q;exact q)
  have HBY:Hid (Byt ((((([(1:Int)]++vn ss.toNat)++vn lo.toNat)++vn hi.toNat)++[d0,d1,d2])++osB ([]:List Opn))):=by
   have e:(((([(1:Int)]++vn ss.toNat)++vn lo.toNat)++vn hi.toNat)++[d0,d1,d2])++osB ([]:List Opn)=frB ⟨1,ss,lo,hi,d0,d1,d2,[]⟩:=by simp [frB,osB]
   rw [e];exact hby
  have hB1:w.heap.size+1≤(w.alloc (.cells #[I6 1,U3 ss,U6 lo,U6 hi,U8 d0,U8 d1,U8 d2,.slice a 0 cap] 58)).heap.size:=by simp
  have hb1':Below (w.heap.size+1) (w.alloc (.cells #[I6 1,U3 ss,U6 lo,U6 hi,U8 d0,U8 d1,U8 d2,.slice a 0 cap] 58)) (w.alloc (.cells #[I6 1,U3 ss,U6 lo,U6 hi,U8 d0,U8 d1,U8 d2,.slice a 0 cap] 58)):=qj _ _;have y1':((w.alloc (.cells #[I6 1,U3 ss,U6 lo,U6 hi,U8 d0,U8 d1,U8 d2,.slice a 0 cap] 58)).alloc (.cells #[U8 1] 5)).cell? (Ad w.heap.size 1)=some (U3 ss):=(World.cell?_alloc_lt _ _ (Ad w.heap.size 1) (show w.heap.size < (w.alloc (.cells #[I6 1,U3 ss,U6 lo,U6 hi,U8 d0,U8 d1,U8 d2,.slice a 0 cap] 58)).heap.size from hB1)).trans ((cell_of_row _ _ _ _ _ _ (heap_alloc_new w _)).trans rfl)
  have HN1:OwnB ((w.alloc (.cells #[I6 1,U3 ss,U6 lo,U6 hi,U8 d0,U8 d1,U8 d2,.slice a 0 cap] 58)).alloc (.cells #[U8 1] 5)) (w.heap.size+1) (.slice (some ⟨w.heap.size+1,0,none⟩) 1 1) [(1:Int)]:=by
   have h:=own_new1 (w.alloc (.cells #[I6 1,U3 ss,U6 lo,U6 hi,U8 d0,U8 d1,U8 d2,.slice a 0 cap] 58)) (w.heap.size+1) 1 hB1;rw [hzs] at h;exact h
  have hN1:w.heap.size+1≤((w.alloc (.cells #[I6 1,U3 ss,U6 lo,U6 hi,U8 d0,U8 d1,U8 d2,.slice a 0 cap] 58)).alloc (.cells #[U8 1] 5)).heap.size:=by simp
  have hb1'':Below (w.heap.size+1) (w.alloc (.cells #[I6 1,U3 ss,U6 lo,U6 hi,U8 d0,U8 d1,U8 d2,.slice a 0 cap] 58)) ((w.alloc (.cells #[I6 1,U3 ss,U6 lo,U6 hi,U8 d0,U8 d1,U8 d2,.slice a 0 cap] 58)).alloc (.cells #[U8 1] 5)):=hb1'.alloc hB1 _;go_enter Tryz.func107,Tryz.ntmps107
  go_wp2_with (first
   | (go_at_call 181;have hq:=ho3;clear hq;refine (vp hi a3 (by omega) (w.heap.size+1) _ (([(1:Int)]++vn ss.toNat)++vn lo.toNat) _ hB3 (by simp only [qe,qp,qv];omega) ho3).mono ?_;rintro e w4 ⟨v4,rfl,ho4,r4⟩;have hb4:Below (w.heap.size+1) (w.alloc (.cells #[I6 1,U3 ss,U6 lo,U6 hi,U8 d0,U8 d1,U8 d2,.slice a 0 cap] 58)) w4:=hb3.trans (r4.below ho3 hB3);have hB4:w.heap.size+1≤w4.heap.size:=qi (by simp) hb4.size;obtain ⟨t40,t41,t42,t43,t44,t45,t46,t47⟩:=fr8N (hzs▸hb4) rfl)
   | (go_at_call 181;have hq:=ho2;clear hq;refine (vp lo a2 (by omega) (w.heap.size+1) _ ([(1:Int)]++vn ss.toNat) _ hB2 (by simp only [qe,qp,qv];omega) ho2).mono ?_;rintro e w3 ⟨v3,rfl,ho3,r3⟩;have hb3:Below (w.heap.size+1) (w.alloc (.cells #[I6 1,U3 ss,U6 lo,U6 hi,U8 d0,U8 d1,U8 d2,.slice a 0 cap] 58)) w3:=hb2.trans (r3.below ho2 hB2);have hB3:w.heap.size+1≤w3.heap.size:=qi (by simp) hb3.size;obtain ⟨t30,t31,t32,t33,t34,t35,t36,t37⟩:=fr8N (hzs▸hb3) rfl)
   | (go_at_call 181;refine (vp ss a1 (by omega) (w.heap.size+1) _ [1] _ hN1 (by simp) HN1).mono ?_;rintro e w2 ⟨v2,rfl,ho2,r2⟩;have hb2:Below (w.heap.size+1) (w.alloc (.cells #[I6 1,U3 ss,U6 lo,U6 hi,U8 d0,U8 d1,U8 d2,.slice a 0 cap] 58)) w2:=hb1''.trans (r2.below HN1 hN1);have hB2:w.heap.size+1≤w2.heap.size:=qi (by simp) hb2.size;obtain ⟨t20,t21,t22,t23,t24,t25,t26,t27⟩:=fr8N (hzs▸hb2) rfl)
   | (go_at_call 182;refine (Hr.out _).mono ?_;rintro e wx ⟨rfl,hwx⟩;obtain rfl:=hwx.symm)
   | (go_at_call 183;refine (Ho.out _).mono ?_;rintro e wx ⟨rfl,hwx⟩;obtain rfl:=hwx.symm)
   | (at_builtin;(refine wpList_append_own_at _ rfl (.tmp 29) (.tmp 31) 59 rfl (w.heap.size+1) 5 i0 (U8 0) 1 1 Tryz.underlying59 hi0 hz0 hz1 hz2 rfl (by decide) v4 ((([(1:Int)]++vn ss.toNat)++vn lo.toNat)++vn hi.toNat).length (u8s ((([(1:Int)]++vn ss.toNat)++vn lo.toNat)++vn hi.toNat)) rfl ho4.row (Ad w.heap.size 4) 3 3 (u8s [d0,d1,d2]) rfl rfl ?hn (xq _) (by unfold maxLen;simp only [qe,qp,qv];omega) (by simp only [qe,qp,qv];omega) hB4 ?_;(case hn=>exact dig3_cells t44 t45 t46);intro v5 w5 hq5 hg5 _ hat5;have ho5:OwnB w5 (w.heap.size+1) v5 (((([(1:Int)]++vn ss.toNat)++vn lo.toNat)++vn hi.toNat)++[d0,d1,d2]):=(by unfold OwnB;rw [qe,xh];exact hq5);have hb5:Below (w.heap.size+1) (w.alloc (.cells #[I6 1,U3 ss,U6 lo,U6 hi,U8 d0,U8 d1,U8 d2,.slice a 0 cap] 58)) w5:=hb4.trans ((AppR.refl v4 w4).grow hg5 hat5 |>.below ho4 hB4);have hB5:w.heap.size+1≤w5.heap.size:=qi (by simp) hb5.size;obtain ⟨t50,t51,t52,t53,t54,t55,t56,t57⟩:=fr8N (hzs▸hb5) rfl)))
  go_loopw [3,46] (fun vv iv wr=>∃ i:Nat,i≤([]:List Opn).length∧iv=I6 i∧OwnB wr (w.heap.size+1) vv ((((([(1:Int)]++vn ss.toNat)++vn lo.toNat)++vn hi.toNat)++[d0,d1,d2])++osB (([]:List Opn).take i))∧Below (w.heap.size+1) (w.alloc (.cells #[I6 1,U3 ss,U6 lo,U6 hi,U8 d0,U8 d1,U8 d2,.slice a 0 cap] 58)) wr) (fun _ iv _=>([]:List Opn).length-(intOf iv).toNat)
  case atStart=>exact ⟨0,qs _,rfl,by simpa [osB] using ho5,hb5⟩
  case round=>
   obtain ⟨i,hi',rfl,hown,hbl⟩:=hrel;have hBr:w.heap.size+1≤wr.heap.size:=qi (by simp) hbl.size
   have hlen:((((([(1:Int)]++vn ss.toNat)++vn lo.toNat)++vn hi.toNat)++[d0,d1,d2])++osB (([]:List Opn).take i)).length≤100000:=by
    have:=osB_len (([]:List Opn).take i) (fun o h=>HOW.out o (jb h));have h2:(([]:List Opn).take i).length≤256:=by rw [qm];have:=n1;omega
    simp only [qe,qp,qv] at *;omega
   by_cases hlt:i < ([]:List Opn).length
   ·exact absurd hlt (by simp)
   ·obtain rfl:i=([]:List Opn).length:=by omega
    rw [jw] at hown hlen;obtain ⟨g,cp,rfl,hcp,hgl,hcells⟩:=hown.view (by simp);have hbyt:Byt ((((([(1:Int)]++vn ss.toNat)++vn lo.toNat)++vn hi.toNat)++[d0,d1,d2])++osB ([]:List Opn)):=HBY.out;have hEr:=HE.out wr hbl;have Hck:Hid (Cs 185 #[.slice (some (Ad g 0)) ((((([(1:Int)]++vn ss.toNat)++vn lo.toNat)++vn hi.toNat)++[d0,d1,d2])++osB ([]:List Opn)).length cp] wr fun e w'=>e=.returned (.agg #[U8 (dig (strOfNums ((((([(1:Int)]++vn ss.toNat)++vn lo.toNat)++vn hi.toNat)++[d0,d1,d2])++osB ([]:List Opn))) 0),U8 (dig (strOfNums ((((([(1:Int)]++vn ss.toNat)++vn lo.toNat)++vn hi.toNat)++[d0,d1,d2])++osB ([]:List Opn))) 1),U8 (dig (strOfNums ((((([(1:Int)]++vn ss.toNat)++vn lo.toNat)++vn hi.toNat)++[d0,d1,d2])++osB ([]:List Opn))) 2)])∧Bel wr w'):=Qz _ _ wr fun W hW=>shaB g 0 cp _ hbyt W (ql hEr.glt hW.size) (fun j hj=>(hW.cell hEr.glt).trans (hEr.table j hj)) (fun i h=>(hW.cell hgl).trans (hcells i h)) (ql hgl hW.size) (by omega) hcp;generalize hX:(((([(1:Int)]++vn ss.toNat)++vn lo.toNat)++vn hi.toNat)++[d0,d1,d2])++osB ([]:List Opn)=X at *;have HX:Hid ((((([(1:Int)]++vn ss.toNat)++vn lo.toNat)++vn hi.toNat)++[d0,d1,d2])++osB ([]:List Opn)=X):=hX;have HOW8:Hid (OwnB wr (w.heap.size+1) (.slice (some (Ad g 0)) X.length cp) X):=hown;clear hX hcells hown
    go_wp2_with (first
     | (go_at_call 185;(refine Hck.out.mono ?_;rintro e w8 ⟨rfl,hb8⟩;have ho8:=HOW8.out.keep hb8;have hb8':=hbl.trans (hb8.mono hBr);have hB8:w.heap.size+1≤w8.heap.size:=qi hBr hb8.size))
     | (at_builtin;(refine wpList_append_own_at _ rfl (.tmp 56) (.tmp 57) 59 rfl (w.heap.size+1) 5 i0 (U8 0) 1 1 Tryz.underlying59 hi0 hz0 hz1 hz2 rfl (by decide) (.slice (some (Ad g 0)) X.length cp) X.length (u8s X) rfl (zg ho8 _) (Ad w8.heap.size 0) 3 3 (u8s (chk (strOfNums X))) rfl rfl ?hn (xq _) (by unfold maxLen;omega) (by omega) (by simp;omega) ?_;(case hn=>exact chk_cells w8 _);intro v9 w9 hq9 hg9 _ hat9;have ho9:OwnB w9 (w.heap.size+1) v9 (X++chk (strOfNums X)):=(by unfold OwnB;rw [qe,xh];exact hq9);have hb9:=hb8'.trans (((AppR.refl _ w8).alloc _).grow hg9 hat9 |>.below ho8 hB8))))
    go_ret;have hw9:Bel w w9:=hz.trans (hb9.mono (zc _));have eX:frB ⟨1,ss,lo,hi,d0,d1,d2,([]:List Opn)⟩=X:=by rw [← HX.out];simp [frB,osB]
    exact ⟨⟨_,rfl,by unfold packL;rw [eX];exact ho9.base (zc _)⟩,hw9⟩
 ·skip;obtain ⟨rfl,rfl,rfl⟩:=hd (by decide);clear c2 c3;obtain rfl:=n2 (by decide);have Hr:Hid (∀ W,Cs 182 #[I6 2] W fun e w'=>e=.returned (.bool true)∧w'=W):=xn 2;have Ho:Hid (∀ W,Cs 183 #[I6 2] W fun e w'=>e=.returned (.bool false)∧w'=W):=hasOps_any 2;have hzs:(w.alloc (.cells #[I6 2,U3 ss,U6 lo,U6 hi,U8 0,U8 0,U8 0,.slice a 0 cap] 58)).heap.size=w.heap.size+1:=by simp
  have x1:IntKind.u64.wrap ss=ss:=u64r _ (by omega);have s1:=(vx 9 ss.toNat (by omega)).2;have s2:=(vx 9 lo.toNat (by omega)).2;have s3:=(vx 9 hi.toNat (by omega)).2;have HOW:Hid (∀ o∈([]:List Opn),OpW o):=ho;have HE:Hid (∀ W,Below (w.heap.size+1) (w.alloc (.cells #[I6 2,U3 ss,U6 lo,U6 hi,U8 0,U8 0,U8 0,.slice a 0 cap] 58)) W→Env W):=fun W hb=>(hE.below hz).below (by have q:=hb;rw [← hzs] at q;exact q)
  have HBY:Hid (Byt (((([(2:Int)]++vn ss.toNat)++vn lo.toNat)++vn hi.toNat)++osB ([]:List Opn))):=by
   have e:((([(2:Int)]++vn ss.toNat)++vn lo.toNat)++vn hi.toNat)++osB ([]:List Opn)=frB ⟨2,ss,lo,hi,0,0,0,[]⟩:=by simp [frB,osB]
   rw [e];exact hby
  have hB1:w.heap.size+1≤(w.alloc (.cells #[I6 2,U3 ss,U6 lo,U6 hi,U8 0,U8 0,U8 0,.slice a 0 cap] 58)).heap.size:=by simp
  have hb1':Below (w.heap.size+1) (w.alloc (.cells #[I6 2,U3 ss,U6 lo,U6 hi,U8 0,U8 0,U8 0,.slice a 0 cap] 58)) (w.alloc (.cells #[I6 2,U3 ss,U6 lo,U6 hi,U8 0,U8 0,U8 0,.slice a 0 cap] 58)):=qj _ _;have y1':((w.alloc (.cells #[I6 2,U3 ss,U6 lo,U6 hi,U8 0,U8 0,U8 0,.slice a 0 cap] 58)).alloc (.cells #[U8 2] 5)).cell? (Ad w.heap.size 1)=some (U3 ss):=(World.cell?_alloc_lt _ _ (Ad w.heap.size 1) (show w.heap.size < (w.alloc (.cells #[I6 2,U3 ss,U6 lo,U6 hi,U8 0,U8 0,U8 0,.slice a 0 cap] 58)).heap.size from hB1)).trans ((cell_of_row _ _ _ _ _ _ (heap_alloc_new w _)).trans rfl)
  have HN1:OwnB ((w.alloc (.cells #[I6 2,U3 ss,U6 lo,U6 hi,U8 0,U8 0,U8 0,.slice a 0 cap] 58)).alloc (.cells #[U8 2] 5)) (w.heap.size+1) (.slice (some ⟨w.heap.size+1,0,none⟩) 1 1) [(2:Int)]:=by
   have h:=own_new1 (w.alloc (.cells #[I6 2,U3 ss,U6 lo,U6 hi,U8 0,U8 0,U8 0,.slice a 0 cap] 58)) (w.heap.size+1) 2 hB1;rw [hzs] at h;exact h
  have hN1:w.heap.size+1≤((w.alloc (.cells #[I6 2,U3 ss,U6 lo,U6 hi,U8 0,U8 0,U8 0,.slice a 0 cap] 58)).alloc (.cells #[U8 2] 5)).heap.size:=by simp
  have hb1'':Below (w.heap.size+1) (w.alloc (.cells #[I6 2,U3 ss,U6 lo,U6 hi,U8 0,U8 0,U8 0,.slice a 0 cap] 58)) ((w.alloc (.cells #[I6 2,U3 ss,U6 lo,U6 hi,U8 0,U8 0,U8 0,.slice a 0 cap] 58)).alloc (.cells #[U8 2] 5)):=hb1'.alloc hB1 _;go_enter Tryz.func107,Tryz.ntmps107
  go_wp2_with (first
   | (go_at_call 181;have hq:=ho3;clear hq;refine (vp hi a3 (by omega) (w.heap.size+1) _ (([(2:Int)]++vn ss.toNat)++vn lo.toNat) _ hB3 (by simp only [qe,qp,qv];omega) ho3).mono ?_;rintro e w4 ⟨v4,rfl,ho4,r4⟩;have hb4:Below (w.heap.size+1) (w.alloc (.cells #[I6 2,U3 ss,U6 lo,U6 hi,U8 0,U8 0,U8 0,.slice a 0 cap] 58)) w4:=hb3.trans (r4.below ho3 hB3);have hB4:w.heap.size+1≤w4.heap.size:=qi (by simp) hb4.size;obtain ⟨t40,t41,t42,t43,t44,t45,t46,t47⟩:=fr8N (hzs▸hb4) rfl)
   | (go_at_call 181;have hq:=ho2;clear hq;refine (vp lo a2 (by omega) (w.heap.size+1) _ ([(2:Int)]++vn ss.toNat) _ hB2 (by simp only [qe,qp,qv];omega) ho2).mono ?_;rintro e w3 ⟨v3,rfl,ho3,r3⟩;have hb3:Below (w.heap.size+1) (w.alloc (.cells #[I6 2,U3 ss,U6 lo,U6 hi,U8 0,U8 0,U8 0,.slice a 0 cap] 58)) w3:=hb2.trans (r3.below ho2 hB2);have hB3:w.heap.size+1≤w3.heap.size:=qi (by simp) hb3.size;obtain ⟨t30,t31,t32,t33,t34,t35,t36,t37⟩:=fr8N (hzs▸hb3) rfl)
   | (go_at_call 181;refine (vp ss a1 (by omega) (w.heap.size+1) _ [2] _ hN1 (by simp) HN1).mono ?_;rintro e w2 ⟨v2,rfl,ho2,r2⟩;have hb2:Below (w.heap.size+1) (w.alloc (.cells #[I6 2,U3 ss,U6 lo,U6 hi,U8 0,U8 0,U8 0,.slice a 0 cap] 58)) w2:=hb1''.trans (r2.below HN1 hN1);have hB2:w.heap.size+1≤w2.heap.size:=qi (by simp) hb2.size;obtain ⟨t20,t21,t22,t23,t24,t25,t26,t27⟩:=fr8N (hzs▸hb2) rfl)
   | (go_at_call 182;refine (Hr.out _).mono ?_;rintro e wx ⟨rfl,hwx⟩;obtain rfl:=hwx.symm)
   | (go_at_call 183;refine (Ho.out _).mono ?_;rintro e wx ⟨rfl,hwx⟩;obtain rfl:=hwx.symm))
  go_loopw [3,46] (fun vv iv wr=>∃ i:Nat,i≤([]:List Opn).length∧iv=I6 i∧OwnB wr (w.heap.size+1) vv (((([(2:Int)]++vn ss.toNat)++vn lo.toNat)++vn hi.toNat)++osB (([]:List Opn).take i))∧Below (w.heap.size+1) (w.alloc (.cells #[I6 2,U3 ss,U6 lo,U6 hi,U8 0,U8 0,U8 0,.slice a 0 cap] 58)) wr) (fun _ iv _=>([]:List Opn).length-(intOf iv).toNat)
  case atStart=>exact ⟨0,qs _,rfl,by simpa [osB] using ho4,hb4⟩
  case round=>
   obtain ⟨i,hi',rfl,hown,hbl⟩:=hrel;have hBr:w.heap.size+1≤wr.heap.size:=qi (by simp) hbl.size
   have hlen:(((([(2:Int)]++vn ss.toNat)++vn lo.toNat)++vn hi.toNat)++osB (([]:List Opn).take i)).length≤100000:=by
    have:=osB_len (([]:List Opn).take i) (fun o h=>HOW.out o (jb h));have h2:(([]:List Opn).take i).length≤256:=by rw [qm];have:=n1;omega
    simp only [qe,qp,qv] at *;omega
   by_cases hlt:i < ([]:List Opn).length
   ·exact absurd hlt (by simp)
   ·obtain rfl:i=([]:List Opn).length:=by omega
    rw [jw] at hown hlen;obtain ⟨g,cp,rfl,hcp,hgl,hcells⟩:=hown.view (by simp);have hbyt:Byt (((([(2:Int)]++vn ss.toNat)++vn lo.toNat)++vn hi.toNat)++osB ([]:List Opn)):=HBY.out;have hEr:=HE.out wr hbl;have Hck:Hid (Cs 185 #[.slice (some (Ad g 0)) (((([(2:Int)]++vn ss.toNat)++vn lo.toNat)++vn hi.toNat)++osB ([]:List Opn)).length cp] wr fun e w'=>e=.returned (.agg #[U8 (dig (strOfNums (((([(2:Int)]++vn ss.toNat)++vn lo.toNat)++vn hi.toNat)++osB ([]:List Opn))) 0),U8 (dig (strOfNums (((([(2:Int)]++vn ss.toNat)++vn lo.toNat)++vn hi.toNat)++osB ([]:List Opn))) 1),U8 (dig (strOfNums (((([(2:Int)]++vn ss.toNat)++vn lo.toNat)++vn hi.toNat)++osB ([]:List Opn))) 2)])∧Bel wr w'):=Qz _ _ wr fun W hW=>shaB g 0 cp _ hbyt W (ql hEr.glt hW.size) (fun j hj=>(hW.cell hEr.glt).trans (hEr.table j hj)) (fun i h=>(hW.cell hgl).trans (hcells i h)) (ql hgl hW.size) (by omega) hcp;generalize hX:((([(2:Int)]++vn ss.toNat)++vn lo.toNat)++vn hi.toNat)++osB ([]:List Opn)=X at *;have HX:Hid (((([(2:Int)]++vn ss.toNat)++vn lo.toNat)++vn hi.toNat)++osB ([]:List Opn)=X):=hX;have HOW8:Hid (OwnB wr (w.heap.size+1) (.slice (some (Ad g 0)) X.length cp) X):=hown;clear hX hcells hown
    go_wp2_with (first
     | (go_at_call 185;(refine Hck.out.mono ?_;rintro e w8 ⟨rfl,hb8⟩;have ho8:=HOW8.out.keep hb8;have hb8':=hbl.trans (hb8.mono hBr);have hB8:w.heap.size+1≤w8.heap.size:=qi hBr hb8.size))
     | (at_builtin;(refine wpList_append_own_at _ rfl (.tmp 56) (.tmp 57) 59 rfl (w.heap.size+1) 5 i0 (U8 0) 1 1 Tryz.underlying59 hi0 hz0 hz1 hz2 rfl (by decide) (.slice (some (Ad g 0)) X.length cp) X.length (u8s X) rfl (zg ho8 _) (Ad w8.heap.size 0) 3 3 (u8s (chk (strOfNums X))) rfl rfl ?hn (xq _) (by unfold maxLen;omega) (by omega) (by simp;omega) ?_;(case hn=>exact chk_cells w8 _);intro v9 w9 hq9 hg9 _ hat9;have ho9:OwnB w9 (w.heap.size+1) v9 (X++chk (strOfNums X)):=(by unfold OwnB;rw [qe,xh];exact hq9);have hb9:=hb8'.trans (((AppR.refl _ w8).alloc _).grow hg9 hat9 |>.below ho8 hB8))))
    go_ret;have hw9:Bel w w9:=hz.trans (hb9.mono (zc _));have eX:frB ⟨2,ss,lo,hi,0,0,0,([]:List Opn)⟩=X:=by rw [← HX.out];simp [frB,osB]
    exact ⟨⟨_,rfl,by unfold packL;rw [eX];exact ho9.base (zc _)⟩,hw9⟩
 ·skip;obtain ⟨rfl,rfl,rfl⟩:=hd (by decide);clear c2 c3;clear n2;have Hr:Hid (∀ W,Cs 182 #[I6 3] W fun e w'=>e=.returned (.bool true)∧w'=W):=xn 3;have Ho:Hid (∀ W,Cs 183 #[I6 3] W fun e w'=>e=.returned (.bool true)∧w'=W):=hasOps_any 3;have hzs:(w.alloc (.cells #[I6 3,U3 ss,U6 lo,U6 hi,U8 0,U8 0,U8 0,.slice a os.length cap] 58)).heap.size=w.heap.size+1:=by simp
  have x1:IntKind.u64.wrap ss=ss:=u64r _ (by omega);have s1:=(vx 9 ss.toNat (by omega)).2;have s2:=(vx 9 lo.toNat (by omega)).2;have s3:=(vx 9 hi.toNat (by omega)).2;have HOW:Hid (∀ o∈os,OpW o):=ho;have HE:Hid (∀ W,Below (w.heap.size+1) (w.alloc (.cells #[I6 3,U3 ss,U6 lo,U6 hi,U8 0,U8 0,U8 0,.slice a os.length cap] 58)) W→Env W):=fun W hb=>(hE.below hz).below (by have q:=hb;rw [← hzs] at q;exact q)
  have HBY:Hid (Byt ((((([(3:Int)]++vn ss.toNat)++vn lo.toNat)++vn hi.toNat)++[(os.length:Int)])++osB os)):=by
   have e:(((([(3:Int)]++vn ss.toNat)++vn lo.toNat)++vn hi.toNat)++[(os.length:Int)])++osB os=frB ⟨3,ss,lo,hi,0,0,0,os⟩:=by simp [frB]
   rw [e];exact hby
  have hB1:w.heap.size+1≤(w.alloc (.cells #[I6 3,U3 ss,U6 lo,U6 hi,U8 0,U8 0,U8 0,.slice a os.length cap] 58)).heap.size:=by simp
  have hb1':Below (w.heap.size+1) (w.alloc (.cells #[I6 3,U3 ss,U6 lo,U6 hi,U8 0,U8 0,U8 0,.slice a os.length cap] 58)) (w.alloc (.cells #[I6 3,U3 ss,U6 lo,U6 hi,U8 0,U8 0,U8 0,.slice a os.length cap] 58)):=qj _ _;have y1':((w.alloc (.cells #[I6 3,U3 ss,U6 lo,U6 hi,U8 0,U8 0,U8 0,.slice a os.length cap] 58)).alloc (.cells #[U8 3] 5)).cell? (Ad w.heap.size 1)=some (U3 ss):=(World.cell?_alloc_lt _ _ (Ad w.heap.size 1) (show w.heap.size < (w.alloc (.cells #[I6 3,U3 ss,U6 lo,U6 hi,U8 0,U8 0,U8 0,.slice a os.length cap] 58)).heap.size from hB1)).trans ((cell_of_row _ _ _ _ _ _ (heap_alloc_new w _)).trans rfl)
  have HN1:OwnB ((w.alloc (.cells #[I6 3,U3 ss,U6 lo,U6 hi,U8 0,U8 0,U8 0,.slice a os.length cap] 58)).alloc (.cells #[U8 3] 5)) (w.heap.size+1) (.slice (some ⟨w.heap.size+1,0,none⟩) 1 1) [(3:Int)]:=by
   have h:=own_new1 (w.alloc (.cells #[I6 3,U3 ss,U6 lo,U6 hi,U8 0,U8 0,U8 0,.slice a os.length cap] 58)) (w.heap.size+1) 3 hB1;rw [hzs] at h;exact h
  have hN1:w.heap.size+1≤((w.alloc (.cells #[I6 3,U3 ss,U6 lo,U6 hi,U8 0,U8 0,U8 0,.slice a os.length cap] 58)).alloc (.cells #[U8 3] 5)).heap.size:=by simp
  have hb1'':Below (w.heap.size+1) (w.alloc (.cells #[I6 3,U3 ss,U6 lo,U6 hi,U8 0,U8 0,U8 0,.slice a os.length cap] 58)) ((w.alloc (.cells #[I6 3,U3 ss,U6 lo,U6 hi,U8 0,U8 0,U8 0,.slice a os.length cap] 58)).alloc (.cells #[U8 3] 5)):=hb1'.alloc hB1 _;go_enter Tryz.func107,Tryz.ntmps107
  go_wp2_with (first
   | (go_at_call 181;have hq:=ho3;clear hq;refine (vp hi a3 (by omega) (w.heap.size+1) _ (([(3:Int)]++vn ss.toNat)++vn lo.toNat) _ hB3 (by simp only [qe,qp,qv];omega) ho3).mono ?_;rintro e w4 ⟨v4,rfl,ho4,r4⟩;have hb4:Below (w.heap.size+1) (w.alloc (.cells #[I6 3,U3 ss,U6 lo,U6 hi,U8 0,U8 0,U8 0,.slice a os.length cap] 58)) w4:=hb3.trans (r4.below ho3 hB3);have hB4:w.heap.size+1≤w4.heap.size:=qi (by simp) hb4.size;obtain ⟨t40,t41,t42,t43,t44,t45,t46,t47⟩:=fr8N (hzs▸hb4) rfl)
   | (go_at_call 181;have hq:=ho2;clear hq;refine (vp lo a2 (by omega) (w.heap.size+1) _ ([(3:Int)]++vn ss.toNat) _ hB2 (by simp only [qe,qp,qv];omega) ho2).mono ?_;rintro e w3 ⟨v3,rfl,ho3,r3⟩;have hb3:Below (w.heap.size+1) (w.alloc (.cells #[I6 3,U3 ss,U6 lo,U6 hi,U8 0,U8 0,U8 0,.slice a os.length cap] 58)) w3:=hb2.trans (r3.below ho2 hB2);have hB3:w.heap.size+1≤w3.heap.size:=qi (by simp) hb3.size;obtain ⟨t30,t31,t32,t33,t34,t35,t36,t37⟩:=fr8N (hzs▸hb3) rfl)
   | (go_at_call 181;refine (vp ss a1 (by omega) (w.heap.size+1) _ [3] _ hN1 (by simp) HN1).mono ?_;rintro e w2 ⟨v2,rfl,ho2,r2⟩;have hb2:Below (w.heap.size+1) (w.alloc (.cells #[I6 3,U3 ss,U6 lo,U6 hi,U8 0,U8 0,U8 0,.slice a os.length cap] 58)) w2:=hb1''.trans (r2.below HN1 hN1);have hB2:w.heap.size+1≤w2.heap.size:=qi (by simp) hb2.size;obtain ⟨t20,t21,t22,t23,t24,t25,t26,t27⟩:=fr8N (hzs▸hb2) rfl)
   | (go_at_call 182;refine (Hr.out _).mono ?_;rintro e wx ⟨rfl,hwx⟩;obtain rfl:=hwx.symm)
   | (go_at_call 183;refine (Ho.out _).mono ?_;rintro e wx ⟨rfl,hwx⟩;obtain rfl:=hwx.symm)
   | (at_builtin;refine wpList_append_own_at _ rfl (.tmp 36) (.tmp 41) 59 rfl (w.heap.size+1) 5 i0 (U8 0) 1 1 Tryz.underlying59 hi0 hz0 hz1 hz2 rfl (by decide) v4 ((([(3:Int)]++vn ss.toNat)++vn lo.toNat)++vn hi.toNat).length (u8s ((([(3:Int)]++vn ss.toNat)++vn lo.toNat)++vn hi.toNat)) rfl (ho4.alloc _) (Ad w4.heap.size 0) 1 1 (u8s [(os.length:Int)]) rfl rfl ?hn (xq _) (by unfold maxLen;simp only [qe,qp,qv];omega) (by simp only [qe,qp,qv];omega) (by simp;omega) ?_;(case hn=>exact cell_one_new _ _ _);intro v6 w6 hq6 hg6 _ hat6;have ho6:OwnB w6 (w.heap.size+1) v6 (((([(3:Int)]++vn ss.toNat)++vn lo.toNat)++vn hi.toNat)++[(os.length:Int)]):=(by unfold OwnB;rw [qe,xh];exact hq6);have hb6:Below (w.heap.size+1) (w.alloc (.cells #[I6 3,U3 ss,U6 lo,U6 hi,U8 0,U8 0,U8 0,.slice a os.length cap] 58)) w6:=hb4.trans (((AppR.refl v4 w4).alloc _).grow hg6 hat6 |>.below ho4 hB4);have hB6:w.heap.size+1≤w6.heap.size:=qi (by simp) hb6.size;obtain ⟨t60,t61,t62,t63,t64,t65,t66,t67⟩:=fr8N (hzs▸hb6) rfl))
  go_loopw [3,46] (fun vv iv wr=>∃ i:Nat,i≤os.length∧iv=I6 i∧OwnB wr (w.heap.size+1) vv ((((([(3:Int)]++vn ss.toNat)++vn lo.toNat)++vn hi.toNat)++[(os.length:Int)])++osB (os.take i))∧Below (w.heap.size+1) (w.alloc (.cells #[I6 3,U3 ss,U6 lo,U6 hi,U8 0,U8 0,U8 0,.slice a os.length cap] 58)) wr) (fun _ iv _=>os.length-(intOf iv).toNat)
  case atStart=>exact ⟨0,qs _,rfl,by simpa [osB] using ho6,hb6⟩
  case round=>
   obtain ⟨i,hi',rfl,hown,hbl⟩:=hrel;have hBr:w.heap.size+1≤wr.heap.size:=qi (by simp) hbl.size
   have hlen:((((([(3:Int)]++vn ss.toNat)++vn lo.toNat)++vn hi.toNat)++[(os.length:Int)])++osB (os.take i)).length≤100000:=by
    have:=osB_len (os.take i) (fun o h=>HOW.out o (jb h));have h2:(os.take i).length≤256:=by rw [qm];have:=n1;omega
    simp only [qe,qp,qv] at *;omega
   by_cases hlt:i < os.length
   ·have li:(i:Int) < (os.length:Int):=by omega
    rcases hO with h0 | ⟨g,off,rfl,hO⟩
    ·subst h0;cases hlt
    have hBw:Bel w wr:=hz.trans (hbl.mono (zc _));obtain ⟨c0,c1,c2,c3,c4,c5⟩:=(hO.below hBw).cells hlt;have hwi:=ho os[i] (qn hlt);have hki:=ok_kinds (hop os[i] (qn hlt));have htk:=osB_take os hlt;have HWi:Hid (OpW os[i]∧(os[i].kd=1∨os[i].kd=2)):=⟨hwi,hki⟩;have hlen2:((((([(3:Int)]++vn ss.toNat)++vn lo.toNat)++vn hi.toNat)++[(os.length:Int)])++osB (os.take i)).length+100≤140737488355328:=by omega
    clear ho hop hO hwi hki;go_wp2_with (go_at_call 184;(refine (appOp_any os[i] HWi.out.1 HWi.out.2 (w.heap.size+1) _ _ _ (by simp;omega) hlen2 (hown.alloc _)).mono ?_;rintro e w7 ⟨v7,rfl,ho7,r7⟩;have hb7:=(hbl.alloc hBr _).trans (r7.below (hown.alloc _) (by simp;omega))));go_roundw
    case rel=>exact ⟨i+1,hlt,by go_num,by rw [htk,← qr];exact ho7,hb7⟩
    case measure=>simp [intOf];omega
   ·obtain rfl:i=os.length:=by omega
    rw [jw] at hown hlen;obtain ⟨g,cp,rfl,hcp,hgl,hcells⟩:=hown.view (by simp);have hbyt:Byt ((((([(3:Int)]++vn ss.toNat)++vn lo.toNat)++vn hi.toNat)++[(os.length:Int)])++osB os):=HBY.out;have hEr:=HE.out wr hbl;have Hck:Hid (Cs 185 #[.slice (some (Ad g 0)) ((((([(3:Int)]++vn ss.toNat)++vn lo.toNat)++vn hi.toNat)++[(os.length:Int)])++osB os).length cp] wr fun e w'=>e=.returned (.agg #[U8 (dig (strOfNums ((((([(3:Int)]++vn ss.toNat)++vn lo.toNat)++vn hi.toNat)++[(os.length:Int)])++osB os)) 0),U8 (dig (strOfNums ((((([(3:Int)]++vn ss.toNat)++vn lo.toNat)++vn hi.toNat)++[(os.length:Int)])++osB os)) 1),U8 (dig (strOfNums ((((([(3:Int)]++vn ss.toNat)++vn lo.toNat)++vn hi.toNat)++[(os.length:Int)])++osB os)) 2)])∧Bel wr w'):=Qz _ _ wr fun W hW=>shaB g 0 cp _ hbyt W (ql hEr.glt hW.size) (fun j hj=>(hW.cell hEr.glt).trans (hEr.table j hj)) (fun i h=>(hW.cell hgl).trans (hcells i h)) (ql hgl hW.size) (by omega) hcp;generalize hX:(((([(3:Int)]++vn ss.toNat)++vn lo.toNat)++vn hi.toNat)++[(os.length:Int)])++osB os=X at *;have HX:Hid ((((([(3:Int)]++vn ss.toNat)++vn lo.toNat)++vn hi.toNat)++[(os.length:Int)])++osB os=X):=hX;have HOW8:Hid (OwnB wr (w.heap.size+1) (.slice (some (Ad g 0)) X.length cp) X):=hown;clear hX hcells hown
    go_wp2_with (first
     | (go_at_call 185;(refine Hck.out.mono ?_;rintro e w8 ⟨rfl,hb8⟩;have ho8:=HOW8.out.keep hb8;have hb8':=hbl.trans (hb8.mono hBr);have hB8:w.heap.size+1≤w8.heap.size:=qi hBr hb8.size))
     | (at_builtin;(refine wpList_append_own_at _ rfl (.tmp 56) (.tmp 57) 59 rfl (w.heap.size+1) 5 i0 (U8 0) 1 1 Tryz.underlying59 hi0 hz0 hz1 hz2 rfl (by decide) (.slice (some (Ad g 0)) X.length cp) X.length (u8s X) rfl (zg ho8 _) (Ad w8.heap.size 0) 3 3 (u8s (chk (strOfNums X))) rfl rfl ?hn (xq _) (by unfold maxLen;omega) (by omega) (by simp;omega) ?_;(case hn=>exact chk_cells w8 _);intro v9 w9 hq9 hg9 _ hat9;have ho9:OwnB w9 (w.heap.size+1) v9 (X++chk (strOfNums X)):=(by unfold OwnB;rw [qe,xh];exact hq9);have hb9:=hb8'.trans (((AppR.refl _ w8).alloc _).grow hg9 hat9 |>.below ho8 hB8))))
    go_ret;have hw9:Bel w w9:=hz.trans (hb9.mono (zc _));have eX:frB ⟨3,ss,lo,hi,0,0,0,os⟩=X:=by rw [← HX.out];simp [frB]
    exact ⟨⟨_,rfl,by unfold packL;rw [eX];exact ho9.base (zc _)⟩,hw9⟩
 ·skip;obtain ⟨rfl,rfl,rfl⟩:=hd (by decide);clear c2 c3;clear n2;have Hr:Hid (∀ W,Cs 182 #[I6 4] W fun e w'=>e=.returned (.bool true)∧w'=W):=xn 4;have Ho:Hid (∀ W,Cs 183 #[I6 4] W fun e w'=>e=.returned (.bool true)∧w'=W):=hasOps_any 4;have hzs:(w.alloc (.cells #[I6 4,U3 ss,U6 lo,U6 hi,U8 0,U8 0,U8 0,.slice a os.length cap] 58)).heap.size=w.heap.size+1:=by simp
  have x1:IntKind.u64.wrap ss=ss:=u64r _ (by omega);have s1:=(vx 9 ss.toNat (by omega)).2;have s2:=(vx 9 lo.toNat (by omega)).2;have s3:=(vx 9 hi.toNat (by omega)).2;have HOW:Hid (∀ o∈os,OpW o):=ho;have HE:Hid (∀ W,Below (w.heap.size+1) (w.alloc (.cells #[I6 4,U3 ss,U6 lo,U6 hi,U8 0,U8 0,U8 0,.slice a os.length cap] 58)) W→Env W):=fun W hb=>(hE.below hz).below (by have q:=hb;rw [← hzs] at q;exact q)
  have HBY:Hid (Byt ((((([(4:Int)]++vn ss.toNat)++vn lo.toNat)++vn hi.toNat)++[(os.length:Int)])++osB os)):=by
   have e:(((([(4:Int)]++vn ss.toNat)++vn lo.toNat)++vn hi.toNat)++[(os.length:Int)])++osB os=frB ⟨4,ss,lo,hi,0,0,0,os⟩:=by simp [frB]
   rw [e];exact hby
  have hB1:w.heap.size+1≤(w.alloc (.cells #[I6 4,U3 ss,U6 lo,U6 hi,U8 0,U8 0,U8 0,.slice a os.length cap] 58)).heap.size:=by simp
  have hb1':Below (w.heap.size+1) (w.alloc (.cells #[I6 4,U3 ss,U6 lo,U6 hi,U8 0,U8 0,U8 0,.slice a os.length cap] 58)) (w.alloc (.cells #[I6 4,U3 ss,U6 lo,U6 hi,U8 0,U8 0,U8 0,.slice a os.length cap] 58)):=qj _ _;have y1':((w.alloc (.cells #[I6 4,U3 ss,U6 lo,U6 hi,U8 0,U8 0,U8 0,.slice a os.length cap] 58)).alloc (.cells #[U8 4] 5)).cell? (Ad w.heap.size 1)=some (U3 ss):=(World.cell?_alloc_lt _ _ (Ad w.heap.size 1) (show w.heap.size < (w.alloc (.cells #[I6 4,U3 ss,U6 lo,U6 hi,U8 0,U8 0,U8 0,.slice a os.length cap] 58)).heap.size from hB1)).trans ((cell_of_row _ _ _ _ _ _ (heap_alloc_new w _)).trans rfl)
  have HN1:OwnB ((w.alloc (.cells #[I6 4,U3 ss,U6 lo,U6 hi,U8 0,U8 0,U8 0,.slice a os.length cap] 58)).alloc (.cells #[U8 4] 5)) (w.heap.size+1) (.slice (some ⟨w.heap.size+1,0,none⟩) 1 1) [(4:Int)]:=by
   have h:=own_new1 (w.alloc (.cells #[I6 4,U3 ss,U6 lo,U6 hi,U8 0,U8 0,U8 0,.slice a os.length cap] 58)) (w.heap.size+1) 4 hB1;rw [hzs] at h;exact h
  have hN1:w.heap.size+1≤((w.alloc (.cells #[I6 4,U3 ss,U6 lo,U6 hi,U8 0,U8 0,U8 0,.slice a os.length cap] 58)).alloc (.cells #[U8 4] 5)).heap.size:=by simp
  have hb1'':Below (w.heap.size+1) (w.alloc (.cells #[I6 4,U3 ss,U6 lo,U6 hi,U8 0,U8 0,U8 0,.slice a os.length cap] 58)) ((w.alloc (.cells #[I6 4,U3 ss,U6 lo,U6 hi,U8 0,U8 0,U8 0,.slice a os.length cap] 58)).alloc (.cells #[U8 4] 5)):=hb1'.alloc hB1 _;go_enter Tryz.func107,Tryz.ntmps107
  go_wp2_with (first
   | (go_at_call 181;have hq:=ho3;clear hq;refine (vp hi a3 (by omega) (w.heap.size+1) _ (([(4:Int)]++vn ss.toNat)++vn lo.toNat) _ hB3 (by simp only [qe,qp,qv];omega) ho3).mono ?_;rintro e w4 ⟨v4,rfl,ho4,r4⟩;have hb4:Below (w.heap.size+1) (w.alloc (.cells #[I6 4,U3 ss,U6 lo,U6 hi,U8 0,U8 0,U8 0,.slice a os.length cap] 58)) w4:=hb3.trans (r4.below ho3 hB3);have hB4:w.heap.size+1≤w4.heap.size:=qi (by simp) hb4.size;obtain ⟨t40,t41,t42,t43,t44,t45,t46,t47⟩:=fr8N (hzs▸hb4) rfl)
   | (go_at_call 181;have hq:=ho2;clear hq;refine (vp lo a2 (by omega) (w.heap.size+1) _ ([(4:Int)]++vn ss.toNat) _ hB2 (by simp only [qe,qp,qv];omega) ho2).mono ?_;rintro e w3 ⟨v3,rfl,ho3,r3⟩;have hb3:Below (w.heap.size+1) (w.alloc (.cells #[I6 4,U3 ss,U6 lo,U6 hi,U8 0,U8 0,U8 0,.slice a os.length cap] 58)) w3:=hb2.trans (r3.below ho2 hB2);have hB3:w.heap.size+1≤w3.heap.size:=qi (by simp) hb3.size;obtain ⟨t30,t31,t32,t33,t34,t35,t36,t37⟩:=fr8N (hzs▸hb3) rfl)
   | (go_at_call 181;refine (vp ss a1 (by omega) (w.heap.size+1) _ [4] _ hN1 (by simp) HN1).mono ?_;rintro e w2 ⟨v2,rfl,ho2,r2⟩;have hb2:Below (w.heap.size+1) (w.alloc (.cells #[I6 4,U3 ss,U6 lo,U6 hi,U8 0,U8 0,U8 0,.slice a os.length cap] 58)) w2:=hb1''.trans (r2.below HN1 hN1);have hB2:w.heap.size+1≤w2.heap.size:=qi (by simp) hb2.size;obtain ⟨t20,t21,t22,t23,t24,t25,t26,t27⟩:=fr8N (hzs▸hb2) rfl)
   | (go_at_call 182;refine (Hr.out _).mono ?_;rintro e wx ⟨rfl,hwx⟩;obtain rfl:=hwx.symm)
   | (go_at_call 183;refine (Ho.out _).mono ?_;rintro e wx ⟨rfl,hwx⟩;obtain rfl:=hwx.symm)
   | (at_builtin;refine wpList_append_own_at _ rfl (.tmp 36) (.tmp 41) 59 rfl (w.heap.size+1) 5 i0 (U8 0) 1 1 Tryz.underlying59 hi0 hz0 hz1 hz2 rfl (by decide) v4 ((([(4:Int)]++vn ss.toNat)++vn lo.toNat)++vn hi.toNat).length (u8s ((([(4:Int)]++vn ss.toNat)++vn lo.toNat)++vn hi.toNat)) rfl (ho4.alloc _) (Ad w4.heap.size 0) 1 1 (u8s [(os.length:Int)]) rfl rfl ?hn (xq _) (by unfold maxLen;simp only [qe,qp,qv];omega) (by simp only [qe,qp,qv];omega) (by simp;omega) ?_;(case hn=>exact cell_one_new _ _ _);intro v6 w6 hq6 hg6 _ hat6;have ho6:OwnB w6 (w.heap.size+1) v6 (((([(4:Int)]++vn ss.toNat)++vn lo.toNat)++vn hi.toNat)++[(os.length:Int)]):=(by unfold OwnB;rw [qe,xh];exact hq6);have hb6:Below (w.heap.size+1) (w.alloc (.cells #[I6 4,U3 ss,U6 lo,U6 hi,U8 0,U8 0,U8 0,.slice a os.length cap] 58)) w6:=hb4.trans (((AppR.refl v4 w4).alloc _).grow hg6 hat6 |>.below ho4 hB4);have hB6:w.heap.size+1≤w6.heap.size:=qi (by simp) hb6.size;obtain ⟨t60,t61,t62,t63,t64,t65,t66,t67⟩:=fr8N (hzs▸hb6) rfl))
  go_loopw [3,46] (fun vv iv wr=>∃ i:Nat,i≤os.length∧iv=I6 i∧OwnB wr (w.heap.size+1) vv ((((([(4:Int)]++vn ss.toNat)++vn lo.toNat)++vn hi.toNat)++[(os.length:Int)])++osB (os.take i))∧Below (w.heap.size+1) (w.alloc (.cells #[I6 4,U3 ss,U6 lo,U6 hi,U8 0,U8 0,U8 0,.slice a os.length cap] 58)) wr) (fun _ iv _=>os.length-(intOf iv).toNat)
  case atStart=>exact ⟨0,qs _,rfl,by simpa [osB] using ho6,hb6⟩
  case round=>
   obtain ⟨i,hi',rfl,hown,hbl⟩:=hrel;have hBr:w.heap.size+1≤wr.heap.size:=qi (by simp) hbl.size
   have hlen:((((([(4:Int)]++vn ss.toNat)++vn lo.toNat)++vn hi.toNat)++[(os.length:Int)])++osB (os.take i)).length≤100000:=by
    have:=osB_len (os.take i) (fun o h=>HOW.out o (jb h));have h2:(os.take i).length≤256:=by rw [qm];have:=n1;omega
    simp only [qe,qp,qv] at *;omega
   by_cases hlt:i < os.length
   ·have li:(i:Int) < (os.length:Int):=by omega
    rcases hO with h0 | ⟨g,off,rfl,hO⟩
    ·subst h0;cases hlt
    have hBw:Bel w wr:=hz.trans (hbl.mono (zc _));obtain ⟨c0,c1,c2,c3,c4,c5⟩:=(hO.below hBw).cells hlt;have hwi:=ho os[i] (qn hlt);have hki:=ok_kinds (hop os[i] (qn hlt));have htk:=osB_take os hlt;have HWi:Hid (OpW os[i]∧(os[i].kd=1∨os[i].kd=2)):=⟨hwi,hki⟩;have hlen2:((((([(4:Int)]++vn ss.toNat)++vn lo.toNat)++vn hi.toNat)++[(os.length:Int)])++osB (os.take i)).length+100≤140737488355328:=by omega
    clear ho hop hO hwi hki;go_wp2_with (go_at_call 184;(refine (appOp_any os[i] HWi.out.1 HWi.out.2 (w.heap.size+1) _ _ _ (by simp;omega) hlen2 (hown.alloc _)).mono ?_;rintro e w7 ⟨v7,rfl,ho7,r7⟩;have hb7:=(hbl.alloc hBr _).trans (r7.below (hown.alloc _) (by simp;omega))));go_roundw
    case rel=>exact ⟨i+1,hlt,by go_num,by rw [htk,← qr];exact ho7,hb7⟩
    case measure=>simp [intOf];omega
   ·obtain rfl:i=os.length:=by omega
    rw [jw] at hown hlen;obtain ⟨g,cp,rfl,hcp,hgl,hcells⟩:=hown.view (by simp);have hbyt:Byt ((((([(4:Int)]++vn ss.toNat)++vn lo.toNat)++vn hi.toNat)++[(os.length:Int)])++osB os):=HBY.out;have hEr:=HE.out wr hbl;have Hck:Hid (Cs 185 #[.slice (some (Ad g 0)) ((((([(4:Int)]++vn ss.toNat)++vn lo.toNat)++vn hi.toNat)++[(os.length:Int)])++osB os).length cp] wr fun e w'=>e=.returned (.agg #[U8 (dig (strOfNums ((((([(4:Int)]++vn ss.toNat)++vn lo.toNat)++vn hi.toNat)++[(os.length:Int)])++osB os)) 0),U8 (dig (strOfNums ((((([(4:Int)]++vn ss.toNat)++vn lo.toNat)++vn hi.toNat)++[(os.length:Int)])++osB os)) 1),U8 (dig (strOfNums ((((([(4:Int)]++vn ss.toNat)++vn lo.toNat)++vn hi.toNat)++[(os.length:Int)])++osB os)) 2)])∧Bel wr w'):=Qz _ _ wr fun W hW=>shaB g 0 cp _ hbyt W (ql hEr.glt hW.size) (fun j hj=>(hW.cell hEr.glt).trans (hEr.table j hj)) (fun i h=>(hW.cell hgl).trans (hcells i h)) (ql hgl hW.size) (by omega) hcp;generalize hX:(((([(4:Int)]++vn ss.toNat)++vn lo.toNat)++vn hi.toNat)++[(os.length:Int)])++osB os=X at *;have HX:Hid ((((([(4:Int)]++vn ss.toNat)++vn lo.toNat)++vn hi.toNat)++[(os.length:Int)])++osB os=X):=hX;have HOW8:Hid (OwnB wr (w.heap.size+1) (.slice (some (Ad g 0)) X.length cp) X):=hown;clear hX hcells hown
    go_wp2_with (first
     | (go_at_call 185;(refine Hck.out.mono ?_;rintro e w8 ⟨rfl,hb8⟩;have ho8:=HOW8.out.keep hb8;have hb8':=hbl.trans (hb8.mono hBr);have hB8:w.heap.size+1≤w8.heap.size:=qi hBr hb8.size))
     | (at_builtin;(refine wpList_append_own_at _ rfl (.tmp 56) (.tmp 57) 59 rfl (w.heap.size+1) 5 i0 (U8 0) 1 1 Tryz.underlying59 hi0 hz0 hz1 hz2 rfl (by decide) (.slice (some (Ad g 0)) X.length cp) X.length (u8s X) rfl (zg ho8 _) (Ad w8.heap.size 0) 3 3 (u8s (chk (strOfNums X))) rfl rfl ?hn (xq _) (by unfold maxLen;omega) (by omega) (by simp;omega) ?_;(case hn=>exact chk_cells w8 _);intro v9 w9 hq9 hg9 _ hat9;have ho9:OwnB w9 (w.heap.size+1) v9 (X++chk (strOfNums X)):=(by unfold OwnB;rw [qe,xh];exact hq9);have hb9:=hb8'.trans (((AppR.refl _ w8).alloc _).grow hg9 hat9 |>.below ho8 hB8))))
    go_ret;have hw9:Bel w w9:=hz.trans (hb9.mono (zc _));have eX:frB ⟨4,ss,lo,hi,0,0,0,os⟩=X:=by rw [← HX.out];simp [frB]
    exact ⟨⟨_,rfl,by unfold packL;rw [eX];exact ho9.base (zc _)⟩,hw9⟩
 ·skip;obtain ⟨rfl,rfl,rfl⟩:=hd (by decide);obtain rfl:=c2 rfl;obtain rfl:=c3 rfl;clear n2;have Hr:Hid (∀ W,Cs 182 #[I6 5] W fun e w'=>e=.returned (.bool false)∧w'=W):=xn 5;have Ho:Hid (∀ W,Cs 183 #[I6 5] W fun e w'=>e=.returned (.bool true)∧w'=W):=hasOps_any 5;have hzs:(w.alloc (.cells #[I6 5,U3 ss,U6 0,U6 0,U8 0,U8 0,U8 0,.slice a os.length cap] 58)).heap.size=w.heap.size+1:=by simp
  have x1:IntKind.u64.wrap ss=ss:=u64r _ (by omega);have s1:=(vx 9 ss.toNat (by omega)).2;have HOW:Hid (∀ o∈os,OpW o):=ho;have HE:Hid (∀ W,Below (w.heap.size+1) (w.alloc (.cells #[I6 5,U3 ss,U6 0,U6 0,U8 0,U8 0,U8 0,.slice a os.length cap] 58)) W→Env W):=fun W hb=>(hE.below hz).below (by have q:=hb;rw [← hzs] at q;exact q)
  have HBY:Hid (Byt ((([(5:Int)]++vn ss.toNat)++[(os.length:Int)])++osB os)):=by
   have e:(([(5:Int)]++vn ss.toNat)++[(os.length:Int)])++osB os=frB ⟨5,ss,0,0,0,0,0,os⟩:=by simp [frB]
   rw [e];exact hby
  have hB1:w.heap.size+1≤(w.alloc (.cells #[I6 5,U3 ss,U6 0,U6 0,U8 0,U8 0,U8 0,.slice a os.length cap] 58)).heap.size:=by simp
  have hb1':Below (w.heap.size+1) (w.alloc (.cells #[I6 5,U3 ss,U6 0,U6 0,U8 0,U8 0,U8 0,.slice a os.length cap] 58)) (w.alloc (.cells #[I6 5,U3 ss,U6 0,U6 0,U8 0,U8 0,U8 0,.slice a os.length cap] 58)):=qj _ _;have y1':((w.alloc (.cells #[I6 5,U3 ss,U6 0,U6 0,U8 0,U8 0,U8 0,.slice a os.length cap] 58)).alloc (.cells #[U8 5] 5)).cell? (Ad w.heap.size 1)=some (U3 ss):=(World.cell?_alloc_lt _ _ (Ad w.heap.size 1) (show w.heap.size < (w.alloc (.cells #[I6 5,U3 ss,U6 0,U6 0,U8 0,U8 0,U8 0,.slice a os.length cap] 58)).heap.size from hB1)).trans ((cell_of_row _ _ _ _ _ _ (heap_alloc_new w _)).trans rfl)
  have HN1:OwnB ((w.alloc (.cells #[I6 5,U3 ss,U6 0,U6 0,U8 0,U8 0,U8 0,.slice a os.length cap] 58)).alloc (.cells #[U8 5] 5)) (w.heap.size+1) (.slice (some ⟨w.heap.size+1,0,none⟩) 1 1) [(5:Int)]:=by
   have h:=own_new1 (w.alloc (.cells #[I6 5,U3 ss,U6 0,U6 0,U8 0,U8 0,U8 0,.slice a os.length cap] 58)) (w.heap.size+1) 5 hB1;rw [hzs] at h;exact h
  have hN1:w.heap.size+1≤((w.alloc (.cells #[I6 5,U3 ss,U6 0,U6 0,U8 0,U8 0,U8 0,.slice a os.length cap] 58)).alloc (.cells #[U8 5] 5)).heap.size:=by simp
  have hb1'':Below (w.heap.size+1) (w.alloc (.cells #[I6 5,U3 ss,U6 0,U6 0,U8 0,U8 0,U8 0,.slice a os.length cap] 58)) ((w.alloc (.cells #[I6 5,U3 ss,U6 0,U6 0,U8 0,U8 0,U8 0,.slice a os.length cap] 58)).alloc (.cells #[U8 5] 5)):=hb1'.alloc hB1 _;go_enter Tryz.func107,Tryz.ntmps107
  go_wp2_with (first
   | (go_at_call 181;refine (vp ss a1 (by omega) (w.heap.size+1) _ [5] _ hN1 (by simp) HN1).mono ?_;rintro e w2 ⟨v2,rfl,ho2,r2⟩;have hb2:Below (w.heap.size+1) (w.alloc (.cells #[I6 5,U3 ss,U6 0,U6 0,U8 0,U8 0,U8 0,.slice a os.length cap] 58)) w2:=hb1''.trans (r2.below HN1 hN1);have hB2:w.heap.size+1≤w2.heap.size:=qi (by simp) hb2.size;obtain ⟨t20,t21,t22,t23,t24,t25,t26,t27⟩:=fr8N (hzs▸hb2) rfl)
   | (go_at_call 182;refine (Hr.out _).mono ?_;rintro e wx ⟨rfl,hwx⟩;obtain rfl:=hwx.symm)
   | (go_at_call 183;refine (Ho.out _).mono ?_;rintro e wx ⟨rfl,hwx⟩;obtain rfl:=hwx.symm)
   | (at_builtin;refine wpList_append_own_at _ rfl (.tmp 36) (.tmp 41) 59 rfl (w.heap.size+1) 5 i0 (U8 0) 1 1 Tryz.underlying59 hi0 hz0 hz1 hz2 rfl (by decide) v2 ([(5:Int)]++vn ss.toNat).length (u8s ([(5:Int)]++vn ss.toNat)) rfl (ho2.alloc _) (Ad w2.heap.size 0) 1 1 (u8s [(os.length:Int)]) rfl rfl ?hn (xq _) (by unfold maxLen;simp only [qe,qp,qv];omega) (by simp only [qe,qp,qv];omega) (by simp;omega) ?_;(case hn=>exact cell_one_new _ _ _);intro v6 w6 hq6 hg6 _ hat6;have ho6:OwnB w6 (w.heap.size+1) v6 (([(5:Int)]++vn ss.toNat)++[(os.length:Int)]):=(by unfold OwnB;rw [qe,xh];exact hq6);have hb6:Below (w.heap.size+1) (w.alloc (.cells #[I6 5,U3 ss,U6 0,U6 0,U8 0,U8 0,U8 0,.slice a os.length cap] 58)) w6:=hb2.trans (((AppR.refl v2 w2).alloc _).grow hg6 hat6 |>.below ho2 hB2);have hB6:w.heap.size+1≤w6.heap.size:=qi (by simp) hb6.size;obtain ⟨t60,t61,t62,t63,t64,t65,t66,t67⟩:=fr8N (hzs▸hb6) rfl))
  go_loopw [3,46] (fun vv iv wr=>∃ i:Nat,i≤os.length∧iv=I6 i∧OwnB wr (w.heap.size+1) vv ((([(5:Int)]++vn ss.toNat)++[(os.length:Int)])++osB (os.take i))∧Below (w.heap.size+1) (w.alloc (.cells #[I6 5,U3 ss,U6 0,U6 0,U8 0,U8 0,U8 0,.slice a os.length cap] 58)) wr) (fun _ iv _=>os.length-(intOf iv).toNat)
  case atStart=>exact ⟨0,qs _,rfl,by simpa [osB] using ho6,hb6⟩
  case round=>
   obtain ⟨i,hi',rfl,hown,hbl⟩:=hrel;have hBr:w.heap.size+1≤wr.heap.size:=qi (by simp) hbl.size
   have hlen:((([(5:Int)]++vn ss.toNat)++[(os.length:Int)])++osB (os.take i)).length≤100000:=by
    have:=osB_len (os.take i) (fun o h=>HOW.out o (jb h));have h2:(os.take i).length≤256:=by rw [qm];have:=n1;omega
    simp only [qe,qp,qv] at *;omega
   by_cases hlt:i < os.length
   ·have li:(i:Int) < (os.length:Int):=by omega
    rcases hO with h0 | ⟨g,off,rfl,hO⟩
    ·subst h0;cases hlt
    have hBw:Bel w wr:=hz.trans (hbl.mono (zc _));obtain ⟨c0,c1,c2,c3,c4,c5⟩:=(hO.below hBw).cells hlt;have hwi:=ho os[i] (qn hlt);have hki:=ok_kinds (hop os[i] (qn hlt));have htk:=osB_take os hlt;have HWi:Hid (OpW os[i]∧(os[i].kd=1∨os[i].kd=2)):=⟨hwi,hki⟩;have hlen2:((([(5:Int)]++vn ss.toNat)++[(os.length:Int)])++osB (os.take i)).length+100≤140737488355328:=by omega
    clear ho hop hO hwi hki;go_wp2_with (go_at_call 184;(refine (appOp_any os[i] HWi.out.1 HWi.out.2 (w.heap.size+1) _ _ _ (by simp;omega) hlen2 (hown.alloc _)).mono ?_;rintro e w7 ⟨v7,rfl,ho7,r7⟩;have hb7:=(hbl.alloc hBr _).trans (r7.below (hown.alloc _) (by simp;omega))));go_roundw
    case rel=>exact ⟨i+1,hlt,by go_num,by rw [htk,← qr];exact ho7,hb7⟩
    case measure=>simp [intOf];omega
   ·obtain rfl:i=os.length:=by omega
    rw [jw] at hown hlen;obtain ⟨g,cp,rfl,hcp,hgl,hcells⟩:=hown.view (by simp);have hbyt:Byt ((([(5:Int)]++vn ss.toNat)++[(os.length:Int)])++osB os):=HBY.out;have hEr:=HE.out wr hbl;have Hck:Hid (Cs 185 #[.slice (some (Ad g 0)) ((([(5:Int)]++vn ss.toNat)++[(os.length:Int)])++osB os).length cp] wr fun e w'=>e=.returned (.agg #[U8 (dig (strOfNums ((([(5:Int)]++vn ss.toNat)++[(os.length:Int)])++osB os)) 0),U8 (dig (strOfNums ((([(5:Int)]++vn ss.toNat)++[(os.length:Int)])++osB os)) 1),U8 (dig (strOfNums ((([(5:Int)]++vn ss.toNat)++[(os.length:Int)])++osB os)) 2)])∧Bel wr w'):=Qz _ _ wr fun W hW=>shaB g 0 cp _ hbyt W (ql hEr.glt hW.size) (fun j hj=>(hW.cell hEr.glt).trans (hEr.table j hj)) (fun i h=>(hW.cell hgl).trans (hcells i h)) (ql hgl hW.size) (by omega) hcp;generalize hX:(([(5:Int)]++vn ss.toNat)++[(os.length:Int)])++osB os=X at *;have HX:Hid ((([(5:Int)]++vn ss.toNat)++[(os.length:Int)])++osB os=X):=hX;have HOW8:Hid (OwnB wr (w.heap.size+1) (.slice (some (Ad g 0)) X.length cp) X):=hown;clear hX hcells hown
    go_wp2_with (first
     | (go_at_call 185;(refine Hck.out.mono ?_;rintro e w8 ⟨rfl,hb8⟩;have ho8:=HOW8.out.keep hb8;have hb8':=hbl.trans (hb8.mono hBr);have hB8:w.heap.size+1≤w8.heap.size:=qi hBr hb8.size))
     | (at_builtin;(refine wpList_append_own_at _ rfl (.tmp 56) (.tmp 57) 59 rfl (w.heap.size+1) 5 i0 (U8 0) 1 1 Tryz.underlying59 hi0 hz0 hz1 hz2 rfl (by decide) (.slice (some (Ad g 0)) X.length cp) X.length (u8s X) rfl (zg ho8 _) (Ad w8.heap.size 0) 3 3 (u8s (chk (strOfNums X))) rfl rfl ?hn (xq _) (by unfold maxLen;omega) (by omega) (by simp;omega) ?_;(case hn=>exact chk_cells w8 _);intro v9 w9 hq9 hg9 _ hat9;have ho9:OwnB w9 (w.heap.size+1) v9 (X++chk (strOfNums X)):=(by unfold OwnB;rw [qe,xh];exact hq9);have hb9:=hb8'.trans (((AppR.refl _ w8).alloc _).grow hg9 hat9 |>.below ho8 hB8))))
    go_ret;have hw9:Bel w w9:=hz.trans (hb9.mono (zc _));have eX:frB ⟨5,ss,0,0,0,0,0,os⟩=X:=by rw [← HX.out];simp [frB]
    exact ⟨⟨_,rfl,by unfold packL;rw [eX];exact ho9.base (zc _)⟩,hw9⟩
end Go.Proofs.YtgccjefbedpmpaaGreatDoor

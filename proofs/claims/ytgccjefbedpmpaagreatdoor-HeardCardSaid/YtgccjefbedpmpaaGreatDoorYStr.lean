import Derived.Test.YtgccjefbedpmpaaGreatDoorYSort1
import Derived.Test.YtgccjefbedpmpaaGreatDoorYBld
namespace Go.Proofs.YtgccjefbedpmpaaGreatDoor
open Go.RowKit
set_option maxRecDepth 100000
set_option maxHeartbeats 8000000
variable {B : Nat} {v : Value} {w' : World}
def strOf (l:List Opn):List UInt8:=l.flatMap fun o=>Lib.encodeRune o.ch
theorem rune_len (r:Int):(Lib.encodeRune r).length≤4:=by
 unfold Lib.encodeRune;rw [ze];unfold Lib.encodeRuneZ
 (repeat' split)<;>simp
theorem strOf_len (l:List Opn):(strOf l).length≤4*l.length:=by
 induction l with
 | nil=>simp [strOf]
 | cons o l ih=>
  have:=rune_len o.ch;unfold strOf at ih ⊢;rw [ke,qe,qp];omega
theorem bytes_app (a b:List UInt8):Lib.byteCells (a++b)=Lib.byteCells a++Lib.byteCells b:=by unfold Lib.byteCells;rw [yb]
theorem strOf_take (l:List Opn) {i:Nat} (h:i<l.length):Lib.byteCells (strOf (l.take (i+1)))=Lib.byteCells (strOf (l.take i))++Lib.runeCells l[i].ch:=by
 unfold strOf;rw [flat_take _ _ h,bytes_app,Lib.byteCells_encodeRune]
theorem others_own {w:World} {b:Nat} {os:List Opn} (h:OwnO w B v os) (ho:Lib.OthersKept 5 (some b) w w') (hb:∀ g,v.ownBlock=some g→g≠b):OwnO w' B v os:=by
 refine kp h fun g hg=>?_;rcases h.2 with ⟨rfl,_⟩|⟨g',cap,cur,rfl,_,h4,_⟩
 ·cases hg
 ·cases hg;rw [h4];exact ho _ _ h4 (fun e=>hb _ rfl (qq e)) (fun c fz e=>by cases e)
theorem World.ownsRowF.belowF {w:World} {n:Nat} {e:TypeId} {xs:List Value} (h:w.ownsRowF B e 1 v n xs) (hb:Bel w w'):w'.ownsRowF B e 1 v n xs:=by
 refine ⟨h.1,?_⟩;rcases h.2 with q|⟨g,cap,cur,fz,rfl,h3,h4,h5⟩
 ·exact Or.inl q
 ·exact Or.inr ⟨g,cap,cur,fz,rfl,h3,(hb.block g (zf.1 h4).1).trans h4,h5⟩
def StrP (os:List Opn) (e:Ending):Prop:=∃ xs,xs.Perm (insOf os)∧xs.Pairwise (fun x y=>¬ ahd y x)∧e=.returned (.string ⟨(strOf (tellL 1073741824 xs (goneOf os) 0)).toArray⟩)
theorem tellL_mem (n:Nat) (ins:List Opn) (gone:List Int):∀ ref,∀ o∈tellL n ins gone ref,o∈ins:=by
 induction n with
 | zero=>intro ref o ho;cases ho
 | succ n ih=>
  intro ref o ho;rw [tellL,yd] at ho;obtain ⟨x,hx,ho⟩:=ho;rw [zd] at ho;rcases ho with ho|ho
  ·split at ho
   ·cases ho
   ·rw [zo] at ho;subst ho;exact (qo.1 hx).1
  ·exact ih _ o ho
theorem string_any (a:Option Addr) (cap:Nat) (os:List Opn) (w:World) (hO:OpsIs w a os) (hT:Tellable os) (hS:SortU (goneOf os)) (hc:∀ o∈os,-2147483648≤o.ch∧o.ch≤2147483647):Cs 101 #[.slice a os.length cap] w fun e w'=>StrP os e∧Bel w w':=by
 have B0:Hid (Lib.IsBuilderF 244 5 w.heap.size w.heap.size [] (w.alloc (.cells #[.pointer none,.slice none 0 0] 244))):=Or.inl ⟨qb _,.slice none 0 0,heap_alloc_new w _,World.ownsRowF_nil _ _ _ _,fun e=>by cases e⟩;have HC:Hid (Cs 153 #[.slice a os.length cap] (w.alloc (.cells #[.pointer none,.slice none 0 0] 244)) fun e w'=>ToldP (w.alloc (.cells #[.pointer none,.slice none 0 0] 244)) os e w'∧Below (w.alloc (.cells #[.pointer none,.slice none 0 0] 244)).heap.size (w.alloc (.cells #[.pointer none,.slice none 0 0] 244)) w'):=told_any a cap os _ (hO.below (kq _ _)) hT hS;have HT:Hid (Tellable os):=hT;have Hc:Hid (∀ o∈os,-2147483648≤o.ch∧o.ch≤2147483647):=hc;have hz:(w.alloc (.cells #[.pointer none,.slice none 0 0] 244)).heap.size=w.heap.size+1:=by simp
 have hB0:Bel w (w.alloc (.cells #[.pointer none,.slice none 0 0] 244)):=kq _ _;clear hO hT hS hc;go_enter Tryz.func101,Tryz.ntmps101;go_wp2_with fail;generalize w.alloc (.cells #[.pointer none,.slice none 0 0] 244)=w1 at *;go_wp2_with (go_at_call 153;refine HC.out.mono ?_;rintro e w2 ⟨⟨v,xs,rfl,hp,hso,hown⟩,hb2⟩;obtain ⟨a2,c2,rfl,-⟩:=xt (own0 hown));have HP:Hid (xs.Perm (insOf os)∧xs.Pairwise (fun x y=>¬ ahd y x)):=⟨hp,hso⟩;have hl:(tellL 1073741824 xs (goneOf os) 0).length≤1000000:=HT.out.told xs hp hso;have hch:∀ o∈tellL 1073741824 xs (goneOf os) 0,-2147483648≤o.ch∧o.ch≤2147483647:=fun o ho=>Hc.out o (qo.1 (hp.mem_iff.1 (tellL_mem _ _ _ _ o ho))).1;have HR:Hid (StrP os (.returned (.string ⟨(strOf (tellL 1073741824 xs (goneOf os) 0)).toArray⟩))):=⟨xs,hp,hso,rfl⟩;generalize tellL 1073741824 xs (goneOf os) 0=l at *;have hlt1:w.heap.size<w1.heap.size:=by omega
 have B1:Lib.IsBuilderF 244 5 w.heap.size w.heap.size [] w2:=by
  rcases B0.out with ⟨q0,v0,q1,q2,q3⟩|⟨q0,v0,q1,q2,q3⟩
  ·exact Or.inl ⟨q0,v0,(hb2.block _ hlt1).trans q1,World.ownsRowF.belowF q2 hb2,q3⟩
  ·exact Or.inr ⟨q0,v0,(hb2.block _ hlt1).trans q1,World.ownsRowF.belowF q2 hb2,q3⟩
 have H2:Hid (OwnO w2 w1.heap.size (.slice a2 l.length c2) l∧Bel w w2∧Lib.IsBuilderF 244 5 w.heap.size w.heap.size [] w2):=⟨hown,hB0.trans (hb2.mono (by omega)),B1⟩;have Hch:Hid (∀ o∈l,-2147483648≤o.ch∧o.ch≤2147483647):=hch;clear hp hso hown hch B1 B0 HC hb2 hB0;go_wp2_with fail;go_loopw [9] (fun iv wr=>∃ (i:Nat),iv=I6 i∧i≤l.length∧Hid (OwnO wr w1.heap.size (.slice a2 l.length c2) l∧Bel w wr∧Lib.IsBuilderF 244 5 w.heap.size w.heap.size (Lib.byteCells (strOf (l.take i))) wr)) (fun iv _=>l.length-(intOf iv).toNat)
 case atStart=>exact ⟨0,rfl,qs _,H2⟩
 case round=>
  clear H2;obtain ⟨i,rfl,hi,H3⟩:=hrel;by_cases hlt:i<l.length
  ·have li:(i:Int)<(l.length:Int):=by omega
   rcases OwnO.is H3.out.1 with rfl|⟨ga,off,rfl,hO⟩
   ·cases hlt
   obtain ⟨c0,c1,c2',c3,c4,c5⟩:=hO.cells hlt;have hcc:=Hch.out l[i] (qn hlt);have hst:=strOf_take l hlt;have hsl:=strOf_len (l.take i);rw [qm] at hsl;generalize l[i]=o at *;generalize strOf (l.take i)=bs at *;have HW:Hid (Cs 175 #[(pt w.heap.size 0),I3 o.ch] (wr.alloc (.cells (oC o) 43)) fun e w'=>(∃ v,e=.returned v)∧(Lib.BuilderAtF 244 5 w.heap.size w.heap.size ((pt w.heap.size 0)) (Lib.byteCells bs++Lib.runeCells o.ch) w'∧Below w.heap.size (wr.alloc (.cells (oC o) 43)) w'∧Lib.OthersKept 5 (some w.heap.size) (wr.alloc (.cells (oC o) 43)) w')):=writeRune_any _ _ _ _ hcc.1 hcc.2 _ (H3.out.2.2.elim (fun q=>Or.inl (q.alloc _)) (fun q=>Or.inr (q.alloc _))) (by unfold Lib.byteCells;rw [ze];omega) (by have:=H3.out.2.1.size;simp;omega);have HS:Hid (Lib.byteCells (strOf (l.take (i+1)))=Lib.byteCells bs++Lib.runeCells o.ch):=hst;have hO':OwnO (wr.alloc (.cells (oC o) 43)) w1.heap.size (.slice (some (Ad ga off)) l.length c2) l:=zg H3.out.1 _;have HO':Hid (OwnO (wr.alloc (.cells (oC o) 43)) w1.heap.size (.slice (some (Ad ga off)) l.length c2) l):=hO';clear hO hO' hst hsl hcc;go_wp2_with (go_at_call 175;refine HW.out.mono ?_;rintro e w5 ⟨⟨vv,rfl⟩,hb5,hbl5,ho5⟩);go_roundw
   case rel=>exact ⟨i+1,by go_num,hlt,km ⟨others_own HO'.out ho5 (fun g hg e=>by have:=(qf HO'.out g hg).1;omega),(H3.out.2.1.alloc H3.out.2.1.size _).trans hbl5,Or.inr (by rw [HS.out];exact hb5)⟩⟩
   case measure=>simp [intOf];omega
  ·have li:¬ (i:Int)<(l.length:Int):=by omega
   obtain rfl:i=l.length:=by omega
   have h3:=H3.out;rw [jw] at h3;have HS:Hid (Calls _ _ _ _ _):=sh_Builder_String_any_k w.heap.size w.heap.size (strOf l) wr h3.2.2 h3.2.1.size;have HB:Hid (Bel w wr):=h3.2.1;clear h3 H3;go_wp2_with (go_at_call 176;refine HS.out.mono ?_;rintro e w6 ⟨rfl,-,hb6,-⟩);go_ret;exact ⟨HR.out,HB.out.trans hb6⟩
theorem ins0_any (a:Option Addr) (cap:Nat) (w:World):Cs 304 #[.slice a 0 cap,I6 0,I6 0] w fun e w'=>e=.returned (.tuple #[])∧w'=w:=by
 go_enter Tryz.func304,Tryz.ntmps304;go_wp2;go_loopw [6] (fun vi wr=>vi=I6 1∧wr=w) (fun _ _=>0)
 case atStart=>exact ⟨rfl,rfl⟩
 case round=>
  obtain ⟨rfl,rfl⟩:=hrel;go_wp2;go_end0;exact ⟨rfl,rfl⟩
theorem pdq0_any (a:Option Addr) (cap:Nat) (lim:Int) (w:World):Cs 270 #[.slice a 0 cap,I6 0,I6 0,I6 lim] w fun e w'=>e=.returned (.tuple #[])∧w'=w:=by
 go_enter Tryz.func270,Tryz.ntmps270;go_wp2;go_loopw [1,2] (fun vi vj wr=>vi=I6 0∧vj=I6 0∧wr=w) (fun _ _ _=>0)
 case atStart=>exact ⟨rfl,rfl,rfl⟩
 case round=>
  obtain ⟨rfl,rfl,rfl⟩:=hrel;go_wp2_with (go_at_call 304;refine (ins0_any a cap _).mono ?_;rintro e w1 ⟨rfl,rfl⟩);exact bodyPost_ret (results_none rfl _ _ _) rfl ⟨rfl,rfl⟩
theorem sortU_nil:SortU []:=by
 intro B v w h
 obtain ⟨a,cap,rfl⟩:∃ a cap,v=.slice a 0 cap:=by
  rcases h.2 with ⟨e,_⟩|⟨g,cap,cur,e,_⟩
  ·exact ⟨_,_,e⟩
  ·exact ⟨_,_,e⟩
 have H:Hid (OwnU w B (.slice a 0 cap) []):=h;clear h;go_enter Tryz.func220,Tryz.ntmps220
 go_wp2_with (first
  | (go_at_call 267;refine (sh_bits_Len 0 _ (by decide) (by decide)).mono ?_;rintro e w1 ⟨rfl,rfl⟩)
  | (go_at_call 270;refine (pdq0_any a cap _ _).mono ?_;rintro e w1 ⟨rfl,rfl⟩))
 go_end0;exact ⟨rfl,[],List.Perm.refl _,List.Pairwise.nil,H.out,But.refl _ _⟩

import Derived.Test.YtgccjefbedpmpaaGreatDoorJKeepS
import Derived.Test.YtgccjefbedpmpaaGreatDoorKRA
import Derived.Test.YtgccjefbedpmpaaGreatDoorKRB
import Derived.WalkKit
import Derived.LaidEql
import Derived.Stop.Asserts
import Derived.RowKitTokens
import Derived.Deep.QuietTactic
import Derived.BigQuiet
import Derived.Shelf.LaysM
import Derived.Shelf.Strconv.Itoa3
import Derived.OwnWalk
import Derived.Maps.AppendAt
import Derived.ChangeKeysEq
import Derived.Deep.RegionHeld3
import Derived.Test.YtgccjefbedpmpaaGreatDoorYTk
namespace Go.Proofs.YtgccjefbedpmpaaGreatDoor
open Go.RowKit Go.Extern.Stop Go.Stop Go.Extern Go.Shelf
set_option maxRecDepth 100000
set_option maxHeartbeats 8000000
variable {B N cap g : Nat} {a : Option Addr} {f : Frm} {l : List Int} {v : Value} {w' w5 : World} {x y z : Int}
def rdFr (l:List Int):Option Frm:=
 if l.length < 3 then none else match frP (l.take (l.length-3)) with
  | some (f,[])=>if l.drop (l.length-3)=chk (strOfNums (l.take (l.length-3))) then some f else none
  | _=>none
def FPost (R:Option Frm) (w:World) (e:Ending) (w':World):Prop:=
 ∃ v,e=.returned v∧(match R with
  | none=>bFr v
  | some f=>gFr w.heap.size f w' v)∧Bel w w'
theorem q3_kept {W w2:World} (h:Bel w5 W∧World.cell? W (Ad g N)=some (U8 x)∧World.cell? W ⟨g,N+1,none⟩=some (U8 y)∧World.cell? W ⟨g,N+2,none⟩=some (U8 z)) (hb:Bel W w2):Bel w5 w2∧World.cell? w2 (Ad g N)=some (U8 x)∧World.cell? w2 ⟨g,N+1,none⟩=some (U8 y)∧World.cell? w2 ⟨g,N+2,none⟩=some (U8 z):=by
 obtain ⟨h0,h1,h2,h3⟩:=h;exact ⟨h0.trans (hb.mono h0.size),(hb.cell (block_lt_of_cell h1)).trans h1,(hb.cell (block_lt_of_cell h2)).trans h2,(hb.cell (block_lt_of_cell h3)).trans h3⟩
theorem q3_drew {W:World} (h:Bel w5 W∧World.cell? W (Ad g N)=some (U8 x)∧World.cell? W ⟨g,N+1,none⟩=some (U8 y)∧World.cell? W ⟨g,N+2,none⟩=some (U8 z)):Bel w5 W.drew∧World.cell? W.drew (Ad g N)=some (U8 x)∧World.cell? W.drew ⟨g,N+1,none⟩=some (U8 y)∧World.cell? W.drew ⟨g,N+2,none⟩=some (U8 z):=⟨h.1.drew,h.2⟩
theorem q3_b {W:World} (h:Bel w5 W∧World.cell? W (Ad g N)=some (U8 x)∧World.cell? W ⟨g,N+1,none⟩=some (U8 y)∧World.cell? W ⟨g,N+2,none⟩=some (U8 z)):Bel w5 W:=h.1
theorem arrAt (g N c:Nat) (W:World):(Instr.arrayAt 49 (.slice (some (Ad g N)) 3 c)).run Tryz.prog W=.ok ((pt g N)) W:=by
 simp [Instr.arrayAt,underlying,Tryz.underlying49]
theorem FPost.no {R:Option Frm} {w:World} (hR:R=none) (hv:bFr v) (hb:Bel w w'):FPost R w (.returned v) w':=by subst hR;exact ⟨_,rfl,hv,hb⟩
theorem FPost.yes {R:Option Frm} {w:World} (hR:R=some f) (hv:gFr w.heap.size f w' v) (hb:Bel w w'):FPost R w (.returned v) w':=by subst hR;exact ⟨_,rfl,hv,hb⟩
theorem But.toBelow {w:World} {rb:Nat} (h:But (fun x=>x=rb) w w') (h1:B≤rb) (h2:B≤w.heap.size):Below B w w':=⟨h.os,h.tape,h.output,h.size,fun i hi=>h.block i (by omega) (by omega)⟩
structure In2 (w:World) (g off cap:Nat) (l:List Int):Prop where
 bytes:∀ i (h:i < l.length),w.cell? ⟨g,off+i,none⟩=some (U8 l[i])
 byt:Byt l
 lt:g < w.heap.size
 room:l.length≤cap
 big:cap≤9223372036854775807
 len:l.length≤140737488355328
theorem In2.below {w:World} {off:Nat} (h:In2 w g off cap l) (hb:Bel w w'):In2 w' g off cap l:=
 ⟨fun i hi=>(hb.cell h.lt).trans (h.bytes i hi),h.byt,ql h.lt hb.size,h.room,h.big,h.len⟩
theorem rfrg_any (g off cap:Nat) (l:List Int) (w:World) (h:In2 w g off cap l) (hE:Env w) (hg9:15≤w.heap.size) :
  Cs 109 #[.slice (some (Ad g off)) l.length cap] w fun e w'=>FPost (rdFr l) w e w':=by
 have hz:Bel w (w.alloc (.cells #[I6 0,U3 0,U6 0,U6 0,U8 0,U8 0,U8 0,.slice none 0 0] 58)):=(qj _ _).alloc (qb _) _;have hroom:=h.room;have hbig:=h.big;have hlen9:=h.len;by_cases h3:l.length < 3
 ·have HR:Hid (rdFr l=none):=by unfold rdFr;rw [if_pos h3];exact rfl
  generalize rdFr l=R at *;have l3:(l.length:Int) < 3:=by omega
  obtain ⟨-,-,-,-,-,⟨aS,sS⟩,-,-,-⟩:=hE.sents.below hz;go_enter Tryz.func109,Tryz.ntmps109
  go_wp2_with (first
   | (go_at_call 120;refine (ku _ _ ⟨_,_,rfl⟩ _).mono ?_;rintro e w2 ⟨⟨x,rfl,hx⟩,hb2⟩;have R2:=(RowIs.new w 58 8 (fr8 0 0 0 0 0 0 0 (.slice none 0 0))).below hb2 (by simp))
   | (refine wpList_store_row rfl 58 (.tmp 2) (.tmp 13) rfl w.heap.size _ rfl rfl _ _ R2 (by exact vt) (by rw [rowOf_size];rfl) (by simp [Value.oneCell']) ?_))
  have hb2':=hz.trans (hb2.mono (by simp));exact bodyPost_ret (ko Tryz.results109 _ _ w.heap.size 58 _ (0,0) _ _ rfl rfl (R2.setRow (fr8 0 0 0 0 0 0 0 (.slice none 0 0))) Tryz.underlying58 rfl (by rw [rowOf_size];exact vt)) rfl (FPost.no HR.out ⟨_,_,rfl,xj _ _ _ _ _ _ _ _ _ _,hx⟩ (kn hb2' (qb _) _))
 ·obtain ⟨N,hN⟩:∃ N,l.length=N+3:=⟨l.length-3,by omega⟩
  have HR:rdFr l=(match frP (l.take N) with
   | some (f,[])=>if l.drop N=chk (strOfNums (l.take N)) then some f else none
   | _=>none):=by unfold rdFr;rw [if_neg h3,show l.length-3=N by omega]
  generalize rdFr l=R at *;have l3:¬ ((N:Int)+3) < 3:=by omega
  have l4:(N:Int)≤(cap:Int):=by omega
  have l5:¬ cap=N:=by omega
  rw [hN] at hroom hlen9 ⊢;go_enter Tryz.func109,Tryz.ntmps109;go_wp2_with fail;go_quiet (fail);have hq0:Bel w ((w.alloc (.cells #[I6 0,U3 0,U6 0,U6 0,U8 0,U8 0,U8 0,.slice none 0 0] 58)).drewN nq):=below_drewN hz nq;have hB1:Bel w (((w.alloc (.cells #[I6 0,U3 0,U6 0,U6 0,U8 0,U8 0,U8 0,.slice none 0 0] 58)).drewN nq).alloc (.cells #[.slice (some (Ad g off)) N cap] 269)):=hq0.alloc hq0.size _;have hsz1:(((w.alloc (.cells #[I6 0,U3 0,U6 0,U6 0,U8 0,U8 0,U8 0,.slice none 0 0] 58)).drewN nq).alloc (.cells #[.slice (some (Ad g off)) N cap] 269)).heap.size=w.heap.size+2:=by show ((w.alloc _).alloc _).heap.size=_;simp
  have R1:RowIs (((w.alloc (.cells #[I6 0,U3 0,U6 0,U6 0,U8 0,U8 0,U8 0,.slice none 0 0] 58)).drewN nq).alloc (.cells #[.slice (some (Ad g off)) N cap] 269)) w.heap.size 58 8 (fr8 0 0 0 0 0 0 0 (.slice none 0 0)):=((RowIs.new w 58 8 (fr8 0 0 0 0 0 0 0 (.slice none 0 0))).drewM nq).below ((qj _ _).alloc (qb _) _) (RowIs.new w 58 8 (fr8 0 0 0 0 0 0 0 (.slice none 0 0))).lt
  have T1:RowIs (((w.alloc (.cells #[I6 0,U3 0,U6 0,U6 0,U8 0,U8 0,U8 0,.slice none 0 0] 58)).drewN nq).alloc (.cells #[.slice (some (Ad g off)) N cap] 269)) (w.heap.size+1) 269 1 (fun _=>.slice (some (Ad g off)) N cap):=by
   have:=RowIs.new ((w.alloc (.cells #[I6 0,U3 0,U6 0,U6 0,U8 0,U8 0,U8 0,.slice none 0 0] 58)).drewN nq) 269 1 (fun _=>.slice (some (Ad g off)) N cap);rw [show ((w.alloc (.cells #[I6 0,U3 0,U6 0,U6 0,U8 0,U8 0,U8 0,.slice none 0 0] 58)).drewN nq).heap.size=w.heap.size+1 by show (w.alloc _).heap.size=_;simp] at this;exact this
  have hlt:=h.lt
  have hD1:Rd (((w.alloc (.cells #[I6 0,U3 0,U6 0,U6 0,U8 0,U8 0,U8 0,.slice none 0 0] 58)).drewN nq).alloc (.cells #[.slice (some (Ad g off)) N cap] 269)) (w.heap.size+1) g off cap (l.take N):=by
   have hl:(l.take N).length=N:=by rw [qm];omega
   refine ⟨by rw [hl];exact T1,by omega,by omega,fun i hi=>?_,fun x hx=>h.byt x (jb hx),by omega⟩;rw [hB1.cell hlt,h.bytes i (by omega)];simp
  have HP:=rparts_any (w.heap.size+1) g off cap (l.take N) _ hD1 (ql hlt hB1.size) (hE.sents.below hB1) (hE.tens.below hB1) (by omega)
  cases hv:frP (l.take N) with
  | none=>
   rw [hv] at HP HR;have HP':Hid (Calls _ _ _ _ _):=HP;have HR1:Hid (R=none):=HR;clear HP HR
   go_wp2_with (first
    | (go_at_call 190;refine HP'.out.mono ?_;rintro e w3 ⟨v3,rfl,⟨f0,x,rfl,ho3,t,y,rfl⟩,hb3⟩;have F3:=RowIs.new w3 58 8 (fr8 0 0 0 0 0 0 0 (.slice none 0 0));have R3q:=R1.but hb3 (show ¬ w.heap.size=w.heap.size+1 by omega);have hB3:=hB1.trans (hb3.toBelow (B:=w.heap.size) (zc _) (by omega));have hBA:Bel w3 ((w3.alloc (.cells (rowOf 8 (fr8 0 0 0 0 0 0 0 (.slice none 0 0))) 58)).setRow w3.heap.size (rowOf 8 f0)):=kn ((qj _ _).alloc (qb _) _) (qb _) _;have R3:=R3q.below hBA R3q.lt;have hB4:=hB3.trans (hBA.mono hB3.size))
    | (refine wpList_store_row rfl 58 (.tmp 7) (.tmp 32) rfl w3.heap.size (rowOf 8 f0) rfl rfl _ _ F3 (by rw [rowOf_size];exact vt) (by rw [rowOf_size,rowOf_size]) ho3 ?_)
    | (refine wpList_store_row rfl 58 (.tmp 2) (.tmp 36) rfl w.heap.size _ rfl rfl _ _ R3 (by exact vt) (by rw [rowOf_size];rfl) (by simp [Value.oneCell']) ?_))
   exact bodyPost_ret (ko Tryz.results109 _ _ w.heap.size 58 _ (0,0) _ _ rfl rfl (R3.setRow (fr8 0 0 0 0 0 0 0 (.slice none 0 0))) Tryz.underlying58 rfl (by rw [rowOf_size];exact vt)) rfl (FPost.no HR1.out ⟨_,_,rfl,xj _ _ _ _ _ _ _ _ _ _,_,_,rfl⟩ (kn hB4 (qb _) _))
  | some y=>
   obtain ⟨f,r⟩:=y;rw [hv] at HP HR;have HP':Hid (Calls _ _ _ _ _):=HP;clear HP
   cases r with
   | cons b r=>
    have HR1:Hid (R=none):=HR;clear HR
    go_wp2_with (first
     | (go_at_call 190;refine HP'.out.mono ?_;rintro e w3 ⟨v3,rfl,⟨⟨sl,rfl,hown⟩,off3,cap3,hr3⟩,hb3⟩;obtain ⟨ao,co,rfl,-⟩:=xt hown;have F3:=RowIs.new w3 58 8 (fr8 0 0 0 0 0 0 0 (.slice none 0 0));have R3q:=R1.but hb3 (show ¬ w.heap.size=w.heap.size+1 by omega);have hB3:=hB1.trans (hb3.toBelow (B:=w.heap.size) (zc _) (by omega));have hBA:Bel w3 ((w3.alloc (.cells (rowOf 8 (fr8 0 0 0 0 0 0 0 (.slice none 0 0))) 58)).setRow w3.heap.size (rowOf 8 (fr8 f.kd f.ss f.lo f.hi f.d0 f.d1 f.d2 (.slice ao f.ops.length co)))):=kn ((qj _ _).alloc (qb _) _) (qb _) _;have R3:=R3q.below hBA R3q.lt;have hB4:=hB3.trans (hBA.mono hB3.size);have hr4:=hr3.but hBA;have hS4:=hE.sents.below hB4)
     | (refine wpList_store_row rfl 58 (.tmp 7) (.tmp 32) rfl w3.heap.size (rowOf 8 (fr8 f.kd f.ss f.lo f.hi f.d0 f.d1 f.d2 (.slice ao f.ops.length co))) rfl rfl _ _ F3 (by rw [rowOf_size];exact vt) (by rw [rowOf_size,rowOf_size]) (xj _ _ _ _ _ _ _ _ _ _) ?_)
     | (go_at_call 191;refine (rend_cons _ g _ _ b r _ hr4 hS4 (by omega)).mono ?_;rintro e w5 ⟨⟨x,rfl,t,y,rfl⟩,hb5,hs5⟩;have R5:=R3.but hb5 (show ¬ w.heap.size=w.heap.size+1 by omega);have hB5:=hB4.trans (hb5.toBelow (B:=w.heap.size) (zc _) hB4.size))
     | (refine wpList_store_row rfl 58 (.tmp 2) (.tmp 42) rfl w.heap.size _ rfl rfl _ _ R5 (by exact vt) (by rw [rowOf_size];rfl) (by simp [Value.oneCell']) ?_))
    exact bodyPost_ret (ko Tryz.results109 _ _ w.heap.size 58 _ (0,0) _ _ rfl rfl (R5.setRow (fr8 0 0 0 0 0 0 0 (.slice none 0 0))) Tryz.underlying58 rfl (by rw [rowOf_size];exact vt)) rfl (FPost.no HR1.out ⟨_,_,rfl,xj _ _ _ _ _ _ _ _ _ _,_,_,rfl⟩ (kn hB5 (qb _) _))
   | nil=>
    go_wp2_with (first
     | (go_at_call 190;refine HP'.out.mono ?_;rintro e w3 ⟨v3,rfl,⟨⟨sl,rfl,hown⟩,off3,cap3,hr3⟩,hb3⟩;obtain ⟨ao,co,rfl,-⟩:=xt hown;have F3:=RowIs.new w3 58 8 (fr8 0 0 0 0 0 0 0 (.slice none 0 0));have R3q:=R1.but hb3 (show ¬ w.heap.size=w.heap.size+1 by omega);have hB3:=hB1.trans (hb3.toBelow (B:=w.heap.size) (zc _) (by omega));have hBA:Bel w3 ((w3.alloc (.cells (rowOf 8 (fr8 0 0 0 0 0 0 0 (.slice none 0 0))) 58)).setRow w3.heap.size (rowOf 8 (fr8 f.kd f.ss f.lo f.hi f.d0 f.d1 f.d2 (.slice ao f.ops.length co)))):=kn ((qj _ _).alloc (qb _) _) (qb _) _;have R3:=R3q.below hBA R3q.lt;have hB4:=hB3.trans (hBA.mono hB3.size);have hr4:=hr3.but hBA;have hS4:=hE.sents.below hB4)
     | (refine wpList_store_row rfl 58 (.tmp 7) (.tmp 32) rfl w3.heap.size (rowOf 8 (fr8 f.kd f.ss f.lo f.hi f.d0 f.d1 f.d2 (.slice ao f.ops.length co))) rfl rfl _ _ F3 (by rw [rowOf_size];exact vt) (by rw [rowOf_size,rowOf_size]) (xj _ _ _ _ _ _ _ _ _ _) ?_)
     | (go_at_call 191;refine (rend_nil _ g _ _ _ hr4 hS4).mono ?_;rintro e w5 ⟨rfl,hb5,hs5⟩;have R5:=R3.but hb5 (show ¬ w.heap.size=w.heap.size+1 by omega);have hB5:=hB4.trans (hb5.toBelow (B:=w.heap.size) (zc _) hB4.size)))
    have hI5:=h.below hB5;have hE5:=hE.below hB5
    obtain ⟨x0,x1,x2,hdr⟩:∃ x0 x1 x2,l.drop N=[x0,x1,x2]:=by
     have hl:(l.drop N).length=3:=by rw [qt];omega
     match hd:l.drop N,hl with
     | [a,b,c],_=>exact ⟨a,b,c,rfl⟩
    have hx:∀ j (hj:N+j < l.length),l[N+j]=(l.drop N)[j]'(by rw [qt];omega):=fun j hj=>by rw [yk]
    have q0:w5.cell? ⟨g,off+N,none⟩=some (U8 x0):=by have:=hI5.bytes (N+0) (by omega);rw [hx 0 (by omega)] at this;simpa [hdr,Nat.add_assoc] using this
    have q1:w5.cell? ⟨g,off+N+1,none⟩=some (U8 x1):=by have:=hI5.bytes (N+1) (by omega);rw [hx 1 (by omega)] at this;simpa [hdr,Nat.add_assoc] using this
    have q2:w5.cell? ⟨g,off+N+2,none⟩=some (U8 x2):=by have:=hI5.bytes (N+2) (by omega);rw [hx 2 (by omega)] at this;simpa [hdr,Nat.add_assoc] using this
    have hl:(l.take N).length=N:=by rw [qm];omega
    have hbt:Byt (l.take N):=fun x hx=>h.byt x (jb hx)
    have HC:Hid (∀ W,Bel w5 W→Cs 185 #[.slice (some (Ad g off)) N cap] W fun e w'=>e=.returned (.agg #[U8 (dig (strOfNums (l.take N)) 0),U8 (dig (strOfNums (l.take N)) 1),U8 (dig (strOfNums (l.take N)) 2)])∧Bel W w'):=fun W hW=>by
     have hEW:=hE5.below hW;refine Qz _ _ W fun W' hW'=>?_;have hEW':=hEW.below hW';have:=shaB g off cap (l.take N) hbt W' hEW'.glt hEW'.table (fun i hi=>by rw [hW'.cell (ql hI5.lt hW.size),hW.cell hI5.lt,hI5.bytes i (by omega)];simp) (ql hI5.lt (qi hW.size hW'.size)) (by omega) (by omega);rw [hl] at this;exact this
    have hchk:chk (strOfNums (l.take N))=[dig (strOfNums (l.take N)) 0,dig (strOfNums (l.take N)) 1,dig (strOfNums (l.take N)) 2]:=rfl;rw [hdr,hchk] at HR;generalize dig (strOfNums (l.take N)) 0=y0 at *;generalize dig (strOfNums (l.take N)) 1=y1 at *;generalize dig (strOfNums (l.take N)) 2=y2 at *;have hS5:Bel w5 w5∧World.cell? w5 ⟨g,off+N,none⟩=some (U8 x0)∧World.cell? w5 ⟨g,off+N+1,none⟩=some (U8 x1)∧World.cell? w5 ⟨g,off+N+2,none⟩=some (U8 x2):=⟨qj _ _,q0,q1,q2⟩;have lc:(3:Int)≤((cap-N:Nat):Int):=by omega
    have har:=fun W=>arrAt g (off+N) (cap-N) W;clear hx hchk q0 q1 q2 hI5 hdr;by_cases hc:y0=x0∧y1=x1∧y2=x2
    ·obtain ⟨rfl,rfl,rfl⟩:=hc;have heq:∀ W,(Op.equalIn 10000 49 (.agg #[U8 y0,U8 y1,U8 y2]) (.agg #[U8 y0,U8 y1,U8 y2])).run Tryz.prog W=.ok true W:=fun W=>by have:=eqArrG y0 y1 y2 y0 y1 y2 W;simpa using this
     go_region_held3 (fun w'=>Bel w5 w'∧World.cell? w' ⟨g,off+N,none⟩=some (U8 y0)∧World.cell? w' ⟨g,off+N+1,none⟩=some (U8 y1)∧World.cell? w' ⟨g,off+N+2,none⟩=some (U8 y2)) (first | assumption | exact q3_drew hS5 | (refine q3_kept (q3_drew hS5) ?_;assumption) | (refine q3_kept ?_ ?_ <;> assumption)) ((go_at_call 185;refine (HC.out _ ?hQ).mono ?_;(case hQ=>(first | exact (qj _ _).drew | exact q3_b (g:=g) (N:=off+N) (x:=y0) (y:=y1) (z:=y2) (by assumption)));rintro e w6 ⟨rfl,hb6⟩))
     all_goals (
      obtain ⟨hB6q,-,-,-⟩:=‹Bel w5 w6∧_›;clear hb6;have hB6:=hB5.trans (hB6q.mono hB5.size);have R6:=R5.below hB6q R5.lt;have HR1:Hid (R=some f):=(show R=some f by rw [HR];simp);clear HR;have F5:=(F3.setRow (fr8 f.kd f.ss f.lo f.hi f.d0 f.d1 f.d2 (.slice ao f.ops.length co))).but hb5 (show ¬ w3.heap.size=w.heap.size+1 by have:=hb3.size;omega);have F6:=F5.below hB6q F5.lt;have j0:w6.cell? (Ad w3.heap.size 0)=some (I6 f.kd):=F6.cell (show 0 < 8 by omega);have j1:w6.cell? (Ad w3.heap.size 1)=some (U3 f.ss):=F6.cell (show 1 < 8 by omega);have j2:w6.cell? (Ad w3.heap.size 2)=some (U6 f.lo):=F6.cell (show 2 < 8 by omega);have j3:w6.cell? (Ad w3.heap.size 3)=some (U6 f.hi):=F6.cell (show 3 < 8 by omega);have j4:w6.cell? (Ad w3.heap.size 4)=some (U8 f.d0):=F6.cell (show 4 < 8 by omega);have j5:w6.cell? (Ad w3.heap.size 5)=some (U8 f.d1):=F6.cell (show 5 < 8 by omega);have j6:w6.cell? (Ad w3.heap.size 6)=some (U8 f.d2):=F6.cell (show 6 < 8 by omega);have j7:w6.cell? (Ad w3.heap.size 7)=some (.slice ao f.ops.length co):=F6.cell (show 7 < 8 by omega)
      have hown6:OwnO (w6.setRow w.heap.size (rowOf 8 (fr8 f.kd f.ss f.lo f.hi f.d0 f.d1 f.d2 (.slice ao f.ops.length co)))) w.heap.size (.slice ao f.ops.length co) f.ops:=by
       refine OwnO.base (kp hown fun y hy=>?_) (by omega);obtain ⟨hy1,hy2⟩:=hown.lt y hy;have hy3:y < w5.heap.size:=ql hy2 (qi hBA.size hb5.size);exact (setRow_other _ _ _ _ (by omega)).trans ((hB6q.block y hy3).trans ((hb5.block y (ql hy2 hBA.size) (by omega)).trans (hBA.block y hy2)))
      go_wp2_with (refine wpList_store_row rfl 58 (.tmp 2) (.tmp 52) rfl w.heap.size _ rfl rfl _ _ R6 (by exact vt) (by rw [rowOf_size];rfl) (by simp [Value.oneCell']) ?_)
      exact bodyPost_ret (ko Tryz.results109 _ _ w.heap.size 58 _ (0,0) _ _ rfl rfl (R6.setRow (fr8 f.kd f.ss f.lo f.hi f.d0 f.d1 f.d2 (.slice ao f.ops.length co))) Tryz.underlying58 rfl (by rw [rowOf_size];exact vt)) rfl (FPost.yes HR1.out ⟨_,rfl,hown6⟩ (kn hB6 (qb _) _)))
    ·skip;have HR1:Hid (R=none):=by rw [HR,if_neg (by intro e;simp at e;exact hc ⟨e.1.symm,e.2.1.symm,e.2.2.symm⟩)];exact rfl
     have hcb:(if y0=x0 then if y1=x1 then decide (y2=x2) else false else false)=false:=by
      by_cases e0:y0=x0
      ·by_cases e1:y1=x1
       ·rw [if_pos e0,if_pos e1];exact decide_eq_false fun e2=>hc ⟨e0,e1,e2⟩
       ·rw [if_pos e0,if_neg e1]
      ·rw [if_neg e0]
     have heq:∀ W,(Op.equalIn 10000 49 (.agg #[U8 y0,U8 y1,U8 y2]) (.agg #[U8 x0,U8 x1,U8 x2])).run Tryz.prog W=.ok false W:=fun W=>by rw [eqArrG,hcb]
     clear HR hcb hc;go_region_held3 (fun w'=>Bel w5 w'∧World.cell? w' ⟨g,off+N,none⟩=some (U8 x0)∧World.cell? w' ⟨g,off+N+1,none⟩=some (U8 x1)∧World.cell? w' ⟨g,off+N+2,none⟩=some (U8 x2)) (first | assumption | exact q3_drew hS5 | (refine q3_kept (q3_drew hS5) ?_;assumption) | (refine q3_kept ?_ ?_ <;> assumption)) ((go_at_call 185;refine (HC.out _ ?hQ).mono ?_;(case hQ=>(first | exact (qj _ _).drew | exact q3_b (g:=g) (N:=off+N) (x:=x0) (y:=x1) (z:=x2) (by assumption)));rintro e w6 ⟨rfl,hb6⟩))
     all_goals (
      obtain ⟨hB6q,-,-,-⟩:=‹Bel w5 w6∧_›;clear hb6;have hB6:=hB5.trans (hB6q.mono hB5.size);have R6:=R5.below hB6q R5.lt;obtain ⟨-,-,-,-,-,-,-,-,⟨aC,sC⟩⟩:=hE.sents.below hB6;go_wp2_with fail;refine wp_region_held_drew (S:=fun w'=>Bel w w'∧w'.cell? (Ad 3 0)=some (.iface 435 (.pointer (some aC)))∧∃ f0,RowIs w' w.heap.size 58 8 f0∧((rowOf 8 f0).all (·.oneCell'))=true) (by kernel_rfl) ⟨hB6.drew,sC,_,R6,xj _ _ _ _ _ _ _ _ _ _⟩ (fun hHeld=>?_);generalize World.drew _=wD at hHeld ⊢;refine ks 0 50 ?_;refine x9 1 51 (fun _ h=>h.2.1) ?_;refine rd 2 none rfl (fun K hK=>?_);obtain ⟨hBD,sCD,f0,hRes,-⟩:=hHeld;rw [if_pos (by rfl)];refine wp_store_row 58 (.tmp 2) (.tmp 50) rfl w.heap.size (rowOf 8 (fr8 0 0 0 0 0 0 0 (.slice none 0 0))) rfl rfl _ _ hRes (by rw [rowOf_size];exact vt) (by rw [rowOf_size,rowOf_size]) (xj _ _ _ _ _ _ _ _ _ _) ?_;refine hK.out _ _ ⟨kn hBD (qb _) _,(qz (setRow_other _ _ _ _ (show 3≠w.heap.size by omega))).trans sCD,_,hRes.setRow _,xj _ _ _ _ _ _ _ _ _ _⟩ (fun hHeld=>?_);clear hK K hRes;refine rdg 3 (some 3) ?_;refine xy ?_;go_wp2_with fail;obtain ⟨hB9,-,f9,hRes9,hOne9⟩:=hHeld
      exact bodyPost_ret (ko Tryz.results109 _ _ w.heap.size 58 _ (0,0) _ _ rfl rfl hRes9 Tryz.underlying58 rfl (by rw [rowOf_size];exact vt)) rfl (FPost.no HR1.out ⟨f9,_,rfl,hOne9,_,_,rfl⟩ hB9))
theorem rfr0_any (a:Option Addr) (cap:Nat) (w:World) (hE:Env w) :
  Cs 109 #[.slice a 0 cap] w fun e w'=>FPost (rdFr []) w e w':=by
 have hz:Bel w (w.alloc (.cells #[I6 0,U3 0,U6 0,U6 0,U8 0,U8 0,U8 0,.slice none 0 0] 58)):=(qj _ _).alloc (qb _) _;have HR:Hid (rdFr []=none):=by unfold rdFr;rw [if_pos (by decide)];exact rfl
 generalize rdFr []=R at *;skip;obtain ⟨-,-,-,-,-,⟨aS,sS⟩,-,-,-⟩:=hE.sents.below hz;go_enter Tryz.func109,Tryz.ntmps109
 go_wp2_with (first
  | (go_at_call 120;refine (ku _ _ ⟨_,_,rfl⟩ _).mono ?_;rintro e w2 ⟨⟨x,rfl,hx⟩,hb2⟩;have R2:=(RowIs.new w 58 8 (fr8 0 0 0 0 0 0 0 (.slice none 0 0))).below hb2 (by simp))
  | (refine wpList_store_row rfl 58 (.tmp 2) (.tmp 13) rfl w.heap.size _ rfl rfl _ _ R2 (by exact vt) (by rw [rowOf_size];rfl) (by simp [Value.oneCell']) ?_))
 have hb2':=hz.trans (hb2.mono (by simp));exact bodyPost_ret (ko Tryz.results109 _ _ w.heap.size 58 _ (0,0) _ _ rfl rfl (R2.setRow (fr8 0 0 0 0 0 0 0 (.slice none 0 0))) Tryz.underlying58 rfl (by rw [rowOf_size];exact vt)) rfl (FPost.no HR.out ⟨_,_,rfl,xj _ _ _ _ _ _ _ _ _ _,hx⟩ (kn hb2' (qb _) _))
def InA (w:World) (a:Option Addr) (cap:Nat) (l:List Int):Prop:=l=[]∨∃ g off,a=some (Ad g off)∧In2 w g off cap l
theorem InA.below {w:World} (h:InA w a cap l) (hb:Bel w w'):InA w' a cap l:=h.elim Or.inl fun ⟨g,off,e,k⟩=>Or.inr ⟨g,off,e,k.below hb⟩
theorem InA.byt {w:World} (h:InA w a cap l):Byt l:=h.elim (fun e=>by subst e;intro x hx;cases hx) fun ⟨_,_,_,k⟩=>k.byt
theorem rfrA_any (a:Option Addr) (cap:Nat) (l:List Int) (w:World) (h:InA w a cap l) (hE:Env w) (hg9:15≤w.heap.size):Cs 109 #[.slice a l.length cap] w fun e w'=>FPost (rdFr l) w e w':=by
 rcases h with rfl | ⟨g,off,rfl,h⟩
 ·exact rfr0_any a cap w hE
 ·exact rfrg_any g off cap l w h hE hg9
def unP (l:List Int):Option Frm:=match rdFr l with
 | some f=>if okFrm f=true then some f else none
 | none=>none
theorem rdFr_good (h:Good f l):rdFr l=some f:=by
 unfold rdFr;have hl:=h.len;rw [if_neg (by omega),h.parse];dsimp only;rw [if_pos (by rw [h.body.1,h.body.2])]
theorem rdFr_sound (h:rdFr l=some f):3≤l.length∧frP (l.take (l.length-3))=some (f,[])∧l.drop (l.length-3)=chk (strOfNums (l.take (l.length-3))):=by
 unfold rdFr at h;split at h
 ·cases h
 ·split at h
  ·rename_i h3 f' h4;split at h
   ·rename_i h5;cases h;exact ⟨by omega,h4,h5⟩
   ·cases h
  ·cases h
theorem unP_some (hb:Byt l) (h:unP l=some f):Good f l:=by
 unfold unP at h;split at h
 ·rename_i f' h1;split at h
  ·rename_i h2;cases h;obtain ⟨_,h3,h4⟩:=rdFr_sound h1;exact good_of_parse hb h3 h4 h2
  ·cases h
 ·cases h
theorem unP_none (h:unP l=none) (f:Frm):¬ Good f l:=fun hg=>by
 unfold unP at h;rw [rdFr_good hg] at h;dsimp only at h;rw [if_pos hg.1] at h;cases h
theorem OpW.t {o:Opn} (h:OpW o):OpT o:=⟨by have:=h.kd;omega,by have:=h.cl;omega,by have:=h.ck;omega,by have:=h.st;omega,by have:=h.rf;omega,by have:=h.ch;omega⟩
theorem frP_ops {r:List Int} (hb:Byt l) (h:frP l=some (f,r)):∀ o∈f.ops,OpT o:=by
 cases l with
 | nil=>cases h
 | cons k l0=>
  have hb0:=hb.tail;rw [frP] at h;split at h
  ·cases h
  rename_i ss l1 h1;obtain ⟨a1,b1,rfl⟩:=xz hb0 h1;have hb1:=hb0.right;split at h
  ·cases h
  rename_i lo hi l2 h2
  have hb2:Byt l2:=by
   unfold rgP at h2;split at h2
   ·split at h2
    ·cases h2
    rename_i lo' l1' e1;obtain ⟨p1,p2,rfl⟩:=xz hb1 e1;split at h2
    ·cases h2
    rename_i hi' l2' e2;obtain ⟨p3,p4,rfl⟩:=xz hb1.right e2;cases h2;exact hb1.right.right
   ·cases h2;exact hb1
  split at h
  ·cases h
  rename_i a b c l3 h3
  have hb3:Byt l3:=by
   unfold dgP at h3;split at h3
   ·split at h3
    ·cases h3;exact hb2.tail.tail.tail
    ·cases h3
   ·cases h3;exact hb2
  split at h
  ·cases h
  rename_i os l4 h4;cases h;dsimp only;unfold opsP at h4;split at h4
  ·split at h4
   ·cases h4
   ·obtain ⟨_,q2,_⟩:=osP_sound _ hb3.tail h4;exact fun o ho=>(q2 o ho).t
  ·cases h4;intro o ho;cases ho
@[reducible] def zeroF:Value:=.agg #[I6 0,U3 0,U6 0,U6 0,U8 0,U8 0,U8 0,.slice none 0 0]
def UPost (R:Option Frm) (w:World) (e:Ending) (w':World):Prop:=
 ∃ v,e=.returned v∧(match R with
  | none=>∃ x,v=.tuple #[zeroF,x]∧Ref w' 8 x
  | some f=>gFr w.heap.size f w' v)∧Bel w w'
theorem UPost.no {R:Option Frm} {w:World} {x:Value} (hR:R=none) (hx:Ref w' 8 x) (hb:Bel w w'):UPost R w (.returned (.tuple #[zeroF,x])) w':=by subst hR;exact ⟨_,rfl,⟨_,rfl,hx⟩,hb⟩
theorem UPost.yes {R:Option Frm} {w:World} (hR:R=some f) (hv:gFr w.heap.size f w' v) (hb:Bel w w'):UPost R w (.returned v) w':=by subst hR;exact ⟨_,rfl,hv,hb⟩
theorem Ref.put {w:World} {x:Value} {o:Nat} (h:Ref w 8 x) (hr:RowIs w o 58 8 (fr8 0 0 0 0 0 0 0 (.slice none 0 0))) (cs:Array Value):Ref (w.setRow o cs) 8 x:=by
 obtain ⟨g,rfl,hc⟩:=h
 have hne:g≠o:=fun e=>by
  subst e;have h0:w.cell? (Ad g 0)=some (I6 0):=hr.cell (by omega);rw [h0] at hc;simp at hc
 exact ⟨g,rfl,(qz (setRow_other _ _ _ _ hne)).trans hc⟩
theorem fr_cells {w:World} {f:Nat→Value} (h:RowIs w g 58 8 f):w.cell? (Ad g 0)=some (f 0)∧w.cell? (Ad g 1)=some (f 1)∧w.cell? (Ad g 2)=some (f 2)∧w.cell? (Ad g 3)=some (f 3)∧w.cell? (Ad g 4)=some (f 4)∧w.cell? (Ad g 5)=some (f 5)∧w.cell? (Ad g 6)=some (f 6)∧w.cell? (Ad g 7)=some (f 7):=
 ⟨h.cell (by omega),h.cell (by omega),h.cell (by omega),h.cell (by omega),h.cell (by omega),h.cell (by omega),h.cell (by omega),h.cell (by omega)⟩
def KU (l:List Int) (B:Nat) (e:Ending) (w':World):Prop:=(∃ f s,Good f l∧e=.returned (.tuple #[f.val s,I6 0])∧OwnO w' B s f.ops)∨((∀ f,¬ Good f l)∧e=.returned (.tuple #[zeroF,I6 8]))
theorem KU.yes {s:Value} (h:Good f l) (ho:OwnO w' B s f.ops):KU l B (.returned (.tuple #[f.val s,I6 0])) w':=Or.inl ⟨f,s,h,rfl,ho⟩
theorem KU.no (h:∀ f,¬ Good f l):KU l B (.returned (.tuple #[zeroF,I6 8])) w':=Or.inr ⟨h,rfl⟩
theorem wunpA_any (a:Option Addr) (cap:Nat) (l:List Int) (w:World) (h:InA w a cap l) (hE:Env w) (hg9:15≤w.heap.size) :
  Cs 60 #[.slice a l.length cap] w fun e w'=>UPost (unP l) w e w':=by
 have hz:Bel w (w.alloc (.cells #[I6 0,U3 0,U6 0,U6 0,U8 0,U8 0,U8 0,.slice none 0 0] 58)):=(qj _ _).alloc (qb _) _;have R0:=RowIs.new w 58 8 (fr8 0 0 0 0 0 0 0 (.slice none 0 0));have HF:=rfrA_any a cap l _ (h.below hz) (hE.below hz) (by simp;omega)
 have hun:unP l=(match rdFr l with
  | some f=>if okFrm f=true then some f else none
  | none=>none):=rfl
 generalize unP l=R at *
 cases hv:rdFr l with
 | none=>
  rw [hv] at HF hun;have HF':Hid (Calls _ _ _ _ _):=HF;have HR:Hid (R=none):=hun;clear HF hun;go_enter Tryz.func60,Tryz.ntmps60
  go_wp2_with (first
   | (go_at_call 109;refine HF'.out.mono ?_;rintro e w1 ⟨v1,rfl,⟨f0,x,rfl,ho,t,y,rfl⟩,hb1⟩;have F1:=RowIs.new w1 58 8 (fr8 0 0 0 0 0 0 0 (.slice none 0 0));have R1q:=R0.below hb1 R0.lt;have hB1:=hz.trans (hb1.mono hz.size);have hBA:Bel w1 ((w1.alloc (.cells (rowOf 8 (fr8 0 0 0 0 0 0 0 (.slice none 0 0))) 58)).setRow w1.heap.size (rowOf 8 f0)):=kn ((qj _ _).alloc (qb _) _) (qb _) _;have R1:=R1q.below hBA R1q.lt;have hB2:=hB1.trans (hBA.mono hB1.size))
   | (refine wpList_store_row rfl 58 (.tmp 4) (.tmp 10) rfl w1.heap.size (rowOf 8 f0) rfl rfl _ _ F1 (by rw [rowOf_size];exact vt) (by rw [rowOf_size,rowOf_size]) ho ?_)
   | (go_at_call 110;refine (refuse_err _ _ ⟨_,_,rfl⟩ _).mono ?_;rintro e w3 ⟨⟨x,rfl,hx⟩,hb3⟩;have R3:=R1.below hb3 R1.lt;have hB3:=hB2.trans (hb3.mono hB2.size))
   | (refine wpList_store_row rfl 58 (.tmp 2) (.tmp 14) rfl w.heap.size _ rfl rfl _ _ R3 (by exact vt) (by rw [rowOf_size];rfl) (by simp [Value.oneCell']) ?_))
  exact bodyPost_ret (v:=.tuple #[zeroF,x]) (ko Tryz.results60 _ _ w.heap.size 58 _ (0,0) _ _ rfl rfl (R3.setRow (fr8 0 0 0 0 0 0 0 (.slice none 0 0))) Tryz.underlying58 rfl (by exact vt)) rfl (UPost.no HR.out (hx.put R3 _) (kn hB3 (qb _) _))
 | some f=>
  have hops:∀ o∈f.ops,OpT o:=by
   obtain ⟨_,h3,_⟩:=rdFr_sound hv;exact frP_ops (fun x hx=>h.byt x (jb hx)) h3
  rw [hv] at HF hun;have HF':Hid (Calls _ _ _ _ _):=HF;dsimp only at hun;clear HF;have HRF:Hid (∀ W ao co,Env W→OpsIs W ao f.ops→Cs 106 #[.agg #[I6 f.kd,U3 f.ss,U6 f.lo,U6 f.hi,U8 f.d0,U8 f.d1,U8 f.d2,.slice ao f.ops.length co]] W fun e w'=>∃ x,e=.returned x∧(okFrm f=true→x=.nilIface)∧(okFrm f=false→Ref w' 8 x)∧Bel W w'):=fun W ao co hEW hOW=>rightFrame_any f.kd f.ss f.lo f.hi f.d0 f.d1 f.d2 ao co f.ops hops W hEW.sents hEW.tens hOW
  cases hok:okFrm f with
  | false=>
   rw [hok] at hun HRF;have HR:Hid (R=none):=by rw [hun];exact rfl
   clear hun;go_enter Tryz.func60,Tryz.ntmps60
   go_wp2_with (first
    | (go_at_call 109;refine HF'.out.mono ?_;rintro e w1 ⟨v1,rfl,⟨sl,rfl,hown⟩,hb1⟩;obtain ⟨ao,co,rfl,-⟩:=xt hown;have F1:=RowIs.new w1 58 8 (fr8 0 0 0 0 0 0 0 (.slice none 0 0));have R1q:=R0.below hb1 R0.lt;have hB1:=hz.trans (hb1.mono hz.size);have hBA:Bel w1 ((w1.alloc (.cells (rowOf 8 (fr8 0 0 0 0 0 0 0 (.slice none 0 0))) 58)).setRow w1.heap.size (rowOf 8 (fr8 f.kd f.ss f.lo f.hi f.d0 f.d1 f.d2 (.slice ao f.ops.length co)))):=kn ((qj _ _).alloc (qb _) _) (qb _) _;have R1:=R1q.below hBA R1q.lt;have hB2:=hB1.trans (hBA.mono hB1.size);have F2:=F1.setRow (fr8 f.kd f.ss f.lo f.hi f.d0 f.d1 f.d2 (.slice ao f.ops.length co));have hOI:=(OwnO.is hown).below hBA;have j02:((w1.alloc (.cells #[I6 0,U3 0,U6 0,U6 0,U8 0,U8 0,U8 0,.slice none 0 0] 58)).setRow w1.heap.size (rowOf 8 (fr8 f.kd f.ss f.lo f.hi f.d0 f.d1 f.d2 (.slice ao f.ops.length co)))).cell? (Ad w1.heap.size 0)=some (I6 f.kd):=F2.cell (show 0 < 8 by omega);have j12:((w1.alloc (.cells #[I6 0,U3 0,U6 0,U6 0,U8 0,U8 0,U8 0,.slice none 0 0] 58)).setRow w1.heap.size (rowOf 8 (fr8 f.kd f.ss f.lo f.hi f.d0 f.d1 f.d2 (.slice ao f.ops.length co)))).cell? (Ad w1.heap.size 1)=some (U3 f.ss):=F2.cell (show 1 < 8 by omega);have j22:((w1.alloc (.cells #[I6 0,U3 0,U6 0,U6 0,U8 0,U8 0,U8 0,.slice none 0 0] 58)).setRow w1.heap.size (rowOf 8 (fr8 f.kd f.ss f.lo f.hi f.d0 f.d1 f.d2 (.slice ao f.ops.length co)))).cell? (Ad w1.heap.size 2)=some (U6 f.lo):=F2.cell (show 2 < 8 by omega);have j32:((w1.alloc (.cells #[I6 0,U3 0,U6 0,U6 0,U8 0,U8 0,U8 0,.slice none 0 0] 58)).setRow w1.heap.size (rowOf 8 (fr8 f.kd f.ss f.lo f.hi f.d0 f.d1 f.d2 (.slice ao f.ops.length co)))).cell? (Ad w1.heap.size 3)=some (U6 f.hi):=F2.cell (show 3 < 8 by omega);have j42:((w1.alloc (.cells #[I6 0,U3 0,U6 0,U6 0,U8 0,U8 0,U8 0,.slice none 0 0] 58)).setRow w1.heap.size (rowOf 8 (fr8 f.kd f.ss f.lo f.hi f.d0 f.d1 f.d2 (.slice ao f.ops.length co)))).cell? (Ad w1.heap.size 4)=some (U8 f.d0):=F2.cell (show 4 < 8 by omega);have j52:((w1.alloc (.cells #[I6 0,U3 0,U6 0,U6 0,U8 0,U8 0,U8 0,.slice none 0 0] 58)).setRow w1.heap.size (rowOf 8 (fr8 f.kd f.ss f.lo f.hi f.d0 f.d1 f.d2 (.slice ao f.ops.length co)))).cell? (Ad w1.heap.size 5)=some (U8 f.d1):=F2.cell (show 5 < 8 by omega);have j62:((w1.alloc (.cells #[I6 0,U3 0,U6 0,U6 0,U8 0,U8 0,U8 0,.slice none 0 0] 58)).setRow w1.heap.size (rowOf 8 (fr8 f.kd f.ss f.lo f.hi f.d0 f.d1 f.d2 (.slice ao f.ops.length co)))).cell? (Ad w1.heap.size 6)=some (U8 f.d2):=F2.cell (show 6 < 8 by omega);have j72:((w1.alloc (.cells #[I6 0,U3 0,U6 0,U6 0,U8 0,U8 0,U8 0,.slice none 0 0] 58)).setRow w1.heap.size (rowOf 8 (fr8 f.kd f.ss f.lo f.hi f.d0 f.d1 f.d2 (.slice ao f.ops.length co)))).cell? (Ad w1.heap.size 7)=some (.slice ao f.ops.length co):=F2.cell (show 7 < 8 by omega))
    | (refine wpList_store_row rfl 58 (.tmp 4) (.tmp 10) rfl w1.heap.size (rowOf 8 (fr8 f.kd f.ss f.lo f.hi f.d0 f.d1 f.d2 (.slice ao f.ops.length co))) rfl rfl _ _ F1 (by rw [rowOf_size];exact vt) (by rw [rowOf_size,rowOf_size]) (xj _ _ _ _ _ _ _ _ _ _) ?_)
    | (go_at_call 106;refine (HRF.out _ ao co (hE.below hB2) hOI).mono ?_;rintro e w3 ⟨x,rfl,-,hx,hb3⟩;obtain ⟨gx,rfl,hcx⟩:=hx (by trivial);have R3:=R1.below hb3 R1.lt;have hB3:=hB2.trans (hb3.mono hB2.size))
    | (refine wpList_store_row rfl 58 (.tmp 2) (.tmp 21) rfl w.heap.size _ rfl rfl _ _ R3 (by exact vt) (by rw [rowOf_size];rfl) (by simp [Value.oneCell']) ?_))
   have hxr:Ref w3 8 (.iface 179 ((pt gx 0))):=⟨gx,rfl,hcx⟩;exact bodyPost_ret (v:=.tuple #[zeroF,.iface 179 ((pt gx 0))]) (ko Tryz.results60 _ _ w.heap.size 58 _ (0,0) _ _ rfl rfl (R3.setRow (fr8 0 0 0 0 0 0 0 (.slice none 0 0))) Tryz.underlying58 rfl (by exact vt)) rfl (UPost.no HR.out (hxr.put R3 _) (kn hB3 (qb _) _))
  | true=>
   rw [hok] at hun HRF;have HR:Hid (R=some f):=by rw [hun];exact rfl
   clear hun;go_enter Tryz.func60,Tryz.ntmps60
   go_wp2_with (first
    | (go_at_call 109;refine HF'.out.mono ?_;rintro e w1 ⟨v1,rfl,⟨sl,rfl,hown⟩,hb1⟩;obtain ⟨ao,co,rfl,-⟩:=xt hown;have F1:=RowIs.new w1 58 8 (fr8 0 0 0 0 0 0 0 (.slice none 0 0));have R1q:=R0.below hb1 R0.lt;have hB1:=hz.trans (hb1.mono hz.size);have hBA:Bel w1 ((w1.alloc (.cells (rowOf 8 (fr8 0 0 0 0 0 0 0 (.slice none 0 0))) 58)).setRow w1.heap.size (rowOf 8 (fr8 f.kd f.ss f.lo f.hi f.d0 f.d1 f.d2 (.slice ao f.ops.length co)))):=kn ((qj _ _).alloc (qb _) _) (qb _) _;have R1:=R1q.below hBA R1q.lt;have hB2:=hB1.trans (hBA.mono hB1.size);have F2:=F1.setRow (fr8 f.kd f.ss f.lo f.hi f.d0 f.d1 f.d2 (.slice ao f.ops.length co));have hOI:=(OwnO.is hown).below hBA;have j02:((w1.alloc (.cells #[I6 0,U3 0,U6 0,U6 0,U8 0,U8 0,U8 0,.slice none 0 0] 58)).setRow w1.heap.size (rowOf 8 (fr8 f.kd f.ss f.lo f.hi f.d0 f.d1 f.d2 (.slice ao f.ops.length co)))).cell? (Ad w1.heap.size 0)=some (I6 f.kd):=F2.cell (show 0 < 8 by omega);have j12:((w1.alloc (.cells #[I6 0,U3 0,U6 0,U6 0,U8 0,U8 0,U8 0,.slice none 0 0] 58)).setRow w1.heap.size (rowOf 8 (fr8 f.kd f.ss f.lo f.hi f.d0 f.d1 f.d2 (.slice ao f.ops.length co)))).cell? (Ad w1.heap.size 1)=some (U3 f.ss):=F2.cell (show 1 < 8 by omega);have j22:((w1.alloc (.cells #[I6 0,U3 0,U6 0,U6 0,U8 0,U8 0,U8 0,.slice none 0 0] 58)).setRow w1.heap.size (rowOf 8 (fr8 f.kd f.ss f.lo f.hi f.d0 f.d1 f.d2 (.slice ao f.ops.length co)))).cell? (Ad w1.heap.size 2)=some (U6 f.lo):=F2.cell (show 2 < 8 by omega);have j32:((w1.alloc (.cells #[I6 0,U3 0,U6 0,U6 0,U8 0,U8 0,U8 0,.slice none 0 0] 58)).setRow w1.heap.size (rowOf 8 (fr8 f.kd f.ss f.lo f.hi f.d0 f.d1 f.d2 (.slice ao f.ops.length co)))).cell? (Ad w1.heap.size 3)=some (U6 f.hi):=F2.cell (show 3 < 8 by omega);have j42:((w1.alloc (.cells #[I6 0,U3 0,U6 0,U6 0,U8 0,U8 0,U8 0,.slice none 0 0] 58)).setRow w1.heap.size (rowOf 8 (fr8 f.kd f.ss f.lo f.hi f.d0 f.d1 f.d2 (.slice ao f.ops.length co)))).cell? (Ad w1.heap.size 4)=some (U8 f.d0):=F2.cell (show 4 < 8 by omega);have j52:((w1.alloc (.cells #[I6 0,U3 0,U6 0,U6 0,U8 0,U8 0,U8 0,.slice none 0 0] 58)).setRow w1.heap.size (rowOf 8 (fr8 f.kd f.ss f.lo f.hi f.d0 f.d1 f.d2 (.slice ao f.ops.length co)))).cell? (Ad w1.heap.size 5)=some (U8 f.d1):=F2.cell (show 5 < 8 by omega);have j62:((w1.alloc (.cells #[I6 0,U3 0,U6 0,U6 0,U8 0,U8 0,U8 0,.slice none 0 0] 58)).setRow w1.heap.size (rowOf 8 (fr8 f.kd f.ss f.lo f.hi f.d0 f.d1 f.d2 (.slice ao f.ops.length co)))).cell? (Ad w1.heap.size 6)=some (U8 f.d2):=F2.cell (show 6 < 8 by omega);have j72:((w1.alloc (.cells #[I6 0,U3 0,U6 0,U6 0,U8 0,U8 0,U8 0,.slice none 0 0] 58)).setRow w1.heap.size (rowOf 8 (fr8 f.kd f.ss f.lo f.hi f.d0 f.d1 f.d2 (.slice ao f.ops.length co)))).cell? (Ad w1.heap.size 7)=some (.slice ao f.ops.length co):=F2.cell (show 7 < 8 by omega))
    | (refine wpList_store_row rfl 58 (.tmp 4) (.tmp 10) rfl w1.heap.size (rowOf 8 (fr8 f.kd f.ss f.lo f.hi f.d0 f.d1 f.d2 (.slice ao f.ops.length co))) rfl rfl _ _ F1 (by rw [rowOf_size];exact vt) (by rw [rowOf_size,rowOf_size]) (xj _ _ _ _ _ _ _ _ _ _) ?_)
    | (go_at_call 106;refine (HRF.out _ ao co (hE.below hB2) hOI).mono ?_;rintro e w3 ⟨x,rfl,hx,-,hb3⟩;obtain rfl:=hx (by trivial);have R3:=R1.below hb3 R1.lt;have hB3:=hB2.trans (hb3.mono hB2.size);have F3:=F2.below hb3 F2.lt;have j03:w3.cell? (Ad w1.heap.size 0)=some (I6 f.kd):=F3.cell (show 0 < 8 by omega);have j13:w3.cell? (Ad w1.heap.size 1)=some (U3 f.ss):=F3.cell (show 1 < 8 by omega);have j23:w3.cell? (Ad w1.heap.size 2)=some (U6 f.lo):=F3.cell (show 2 < 8 by omega);have j33:w3.cell? (Ad w1.heap.size 3)=some (U6 f.hi):=F3.cell (show 3 < 8 by omega);have j43:w3.cell? (Ad w1.heap.size 4)=some (U8 f.d0):=F3.cell (show 4 < 8 by omega);have j53:w3.cell? (Ad w1.heap.size 5)=some (U8 f.d1):=F3.cell (show 5 < 8 by omega);have j63:w3.cell? (Ad w1.heap.size 6)=some (U8 f.d2):=F3.cell (show 6 < 8 by omega);have j73:w3.cell? (Ad w1.heap.size 7)=some (.slice ao f.ops.length co):=F3.cell (show 7 < 8 by omega))
    | (refine wpList_store_row rfl 58 (.tmp 2) (.tmp 23) rfl w.heap.size _ rfl rfl _ _ R3 (by exact vt) (by rw [rowOf_size];rfl) (by simp [Value.oneCell']) ?_))
   have hown3:OwnO (w3.setRow w.heap.size (rowOf 8 (fr8 f.kd f.ss f.lo f.hi f.d0 f.d1 f.d2 (.slice ao f.ops.length co)))) w.heap.size (.slice ao f.ops.length co) f.ops:=by
    refine OwnO.base (kp hown fun y hy=>?_) (by simp);obtain ⟨hy1,hy2⟩:=hown.lt y hy;simp at hy1;exact (setRow_other _ _ _ _ (by omega)).trans ((hb3.block y (ql hy2 hBA.size)).trans (hBA.block y hy2))
   exact bodyPost_ret (ko Tryz.results60 _ _ w.heap.size 58 _ (0,0) _ _ rfl rfl (R3.setRow (fr8 f.kd f.ss f.lo f.hi f.d0 f.d1 f.d2 (.slice ao f.ops.length co))) Tryz.underlying58 rfl (by rw [rowOf_size];exact vt)) rfl (UPost.yes HR.out ⟨_,rfl,hown3⟩ (kn hB3 (qb _) _))
theorem kunpA_any (a:Option Addr) (cap:Nat) (l:List Int) (w:World) (h:InA w a cap l) (hE:Env w) (hg9:15≤w.heap.size) :
  Cs 31 #[.slice a l.length cap] w fun e w'=>KU l w.heap.size e w'∧Bel w w':=by
 have hz:Bel w (w.alloc (.cells #[I6 0,U3 0,U6 0,U6 0,U8 0,U8 0,U8 0,.slice none 0 0] 58)):=(qj _ _).alloc (qb _) _;have R0:=RowIs.new w 58 8 (fr8 0 0 0 0 0 0 0 (.slice none 0 0));have HF:=wunpA_any a cap l _ (h.below hz) (hE.below hz) (by simp;omega)
 cases hv:unP l with
 | none=>
  have hno:=unP_none hv;have Hno:Hid (∀ f,¬ Good f l):=hno;rw [hv] at HF;have HF':Hid (Calls _ _ _ _ _):=HF;clear HF hno;go_enter Tryz.func31,Tryz.ntmps31
  go_wp2_with (first
   | (go_at_call 60;refine HF'.out.mono ?_;rintro e w1 ⟨v1,rfl,⟨x,rfl,hx⟩,hb1⟩;have F1:=RowIs.new w1 58 8 (fr8 0 0 0 0 0 0 0 (.slice none 0 0));have R1q:=R0.below hb1 R0.lt;have hB1:=hz.trans (hb1.mono hz.size)))
  have hBA:Bel w1 (w1.alloc (.cells #[I6 0,U3 0,U6 0,U6 0,U8 0,U8 0,U8 0,.slice none 0 0] 58)):=(qj _ _).alloc (qb _) _;have R1:=R1q.below hBA R1q.lt;have hB2:=hB1.trans (hBA.mono hB1.size);have hx2:=hx.below hBA;have hne1:w.heap.size≠w1.heap.size:=by have:=R1q.lt;omega
  refine wp_region_held_drew (S:=fun w'=>Bel w w'∧RowIs w' w1.heap.size 58 8 (fr8 0 0 0 0 0 0 0 (.slice none 0 0))∧RowIs w' w.heap.size 58 8 (fr8 0 0 0 0 0 0 0 (.slice none 0 0))∧Ref w' 8 x) (by kernel_rfl) ⟨hB2.drew,F1,R1,hx2⟩ (fun hHeld=>?_);generalize World.drew _=wD at hHeld ⊢;refine x9 0 11 (fun _ h=>fr_cells h.2.1) ?_;refine ks 1 12 ?_;refine rd 2 (some 13) rfl (fun K hK=>?_);go_simp;refine (number_ref 8 _ _ hHeld.2.2.2 (hE.below hHeld.1).handle).mono ?_;rintro e w5 ⟨rfl,hb5⟩;refine hK.out _ _ ⟨hHeld.1.trans (hb5.mono hHeld.1.size),hHeld.2.1.below hb5 hHeld.2.1.lt,hHeld.2.2.1.below hb5 hHeld.2.2.1.lt,hHeld.2.2.2.below hb5⟩ (fun hHeld=>?_);clear hK K;refine rd 3 none rfl (fun K hK=>?_);obtain ⟨hBD,hFD,hRes,hxD⟩:=hHeld;rw [if_pos (by rfl)];refine wp_store_row 58 (.tmp 2) (.tmp 11) rfl w.heap.size (rowOf 8 (fr8 0 0 0 0 0 0 0 (.slice none 0 0))) rfl rfl _ _ hRes (by rw [rowOf_size];exact vt) (by simp [rowOf_size]) (xj _ _ _ _ _ _ _ _ _ _) ?_;refine hK.out _ _ ⟨kn hBD (qb _) _,hFD.setRowOther hne1 _,hRes.setRow _,hxD.put hRes _⟩ (fun hHeld=>?_);clear hK K;refine rdg 4 (some 3) ?_;refine xy ?_;go_wp2_with fail;exact bodyPost_ret (v:=.tuple #[zeroF,I6 8]) (ko Tryz.results31 _ _ w.heap.size 58 _ (0,0) _ _ rfl rfl hHeld.2.2.1 Tryz.underlying58 rfl (by exact vt)) rfl ⟨KU.no Hno.out,hHeld.1⟩
 | some f=>
  have Hgo:Hid (Good f l):=unP_some h.byt hv;rw [hv] at HF;have HF':Hid (Calls _ _ _ _ _):=HF;clear HF;go_enter Tryz.func31,Tryz.ntmps31
  go_wp2_with (first
   | (go_at_call 60;refine HF'.out.mono ?_;rintro e w1 ⟨v1,rfl,⟨sl,rfl,hown⟩,hb1⟩;obtain ⟨ao,co,rfl,-⟩:=xt hown;have F1:=RowIs.new w1 58 8 (fr8 0 0 0 0 0 0 0 (.slice none 0 0));have R1q:=R0.below hb1 R0.lt;have hB1:=hz.trans (hb1.mono hz.size))
   | (refine wpList_store_row rfl 58 (.tmp 4) (.tmp 9) rfl w1.heap.size (rowOf 8 (fr8 f.kd f.ss f.lo f.hi f.d0 f.d1 f.d2 (.slice ao f.ops.length co))) rfl rfl _ _ F1 (by rw [rowOf_size];exact vt) (by rw [rowOf_size,rowOf_size]) (xj _ _ _ _ _ _ _ _ _ _) ?_))
  have hBA:Bel w1 ((w1.alloc (.cells (rowOf 8 (fr8 0 0 0 0 0 0 0 (.slice none 0 0))) 58)).setRow w1.heap.size (rowOf 8 (fr8 f.kd f.ss f.lo f.hi f.d0 f.d1 f.d2 (.slice ao f.ops.length co)))):=kn ((qj _ _).alloc (qb _) _) (qb _) _;have R1:=R1q.below hBA R1q.lt;have hB2:=hB1.trans (hBA.mono hB1.size);have F2:=F1.setRow (fr8 f.kd f.ss f.lo f.hi f.d0 f.d1 f.d2 (.slice ao f.ops.length co));have hne1:w.heap.size≠w1.heap.size:=by have:=R1q.lt;omega
  have hownb:∀ y,(Value.slice ao f.ops.length co).ownBlock=some y→w.heap.size < y:=fun y hy=>by have:=(hown.lt y hy).1;simp at this;omega
  have hown2:=OwnO.base (kp hown fun y hy=>hBA.block y (hown.lt y hy).2) (show w.heap.size≤(w.alloc (.cells #[I6 0,U3 0,U6 0,U6 0,U8 0,U8 0,U8 0,.slice none 0 0] 58)).heap.size by simp);refine wp_region_held_drew (S:=fun w'=>Bel w w'∧RowIs w' w1.heap.size 58 8 (fr8 f.kd f.ss f.lo f.hi f.d0 f.d1 f.d2 (.slice ao f.ops.length co))∧(∃ f0,RowIs w' w.heap.size 58 8 f0)∧OwnO w' w.heap.size (.slice ao f.ops.length co) f.ops∧∀ y,(Value.slice ao f.ops.length co).ownBlock=some y→w.heap.size < y) (by kernel_rfl) ⟨hB2.drew,F2,⟨_,R1⟩,hown2,hownb⟩ (fun hHeld=>?_);generalize World.drew _=wD at hHeld ⊢;refine x9 0 11 (fun _ h=>fr_cells h.2.1) ?_;refine ks 1 12 ?_;refine rd 2 (some 13) rfl (fun K hK=>?_);go_simp;refine (Qu _).mono ?_;rintro e w5 ⟨rfl,hw5⟩;obtain rfl:=hw5.symm;refine hK.out _ _ hHeld fun hHeld=>?_;clear hK K;refine rd 3 none rfl (fun K hK=>?_);obtain ⟨hBD,hFD,⟨f0,hRes⟩,hoD,hyD⟩:=hHeld;rw [if_pos (by rfl)];refine wp_store_row 58 (.tmp 2) (.tmp 11) rfl w.heap.size (rowOf 8 (fr8 f.kd f.ss f.lo f.hi f.d0 f.d1 f.d2 (.slice ao f.ops.length co))) rfl rfl _ _ hRes (by rw [rowOf_size];exact vt) (by simp [rowOf_size]) (xj _ _ _ _ _ _ _ _ _ _) ?_;have hRes9:=hRes.setRow (fr8 f.kd f.ss f.lo f.hi f.d0 f.d1 f.d2 (.slice ao f.ops.length co));have hown9:OwnO (wD.setRow w.heap.size (rowOf 8 (fr8 f.kd f.ss f.lo f.hi f.d0 f.d1 f.d2 (.slice ao f.ops.length co)))) w.heap.size (.slice ao f.ops.length co) f.ops:=kp hoD fun y hy=>setRow_other _ _ _ _ (by have:=hyD y hy;omega);refine hK.out _ _ ⟨kn hBD (qb _) _,hFD.setRowOther hne1 _,⟨_,hRes.setRow _⟩,hown9,hyD⟩ (fun hHeld=>?_);clear hK K;refine rdg 4 (some 3) ?_;refine xy ?_;go_wp2_with fail;exact bodyPost_ret (v:=.tuple #[f.val (.slice ao f.ops.length co),I6 0]) (ko Tryz.results31 _ _ w.heap.size 58 _ (0,0) _ _ rfl rfl hRes9 Tryz.underlying58 rfl (by exact vt)) rfl ⟨KU.yes Hgo.out hown9,hHeld.1⟩
end Go.Proofs.YtgccjefbedpmpaaGreatDoor

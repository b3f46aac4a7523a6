import Derived.Test.YtgccjefbedpmpaaGreatDoorYLess
import Derived.Test.YtgccjefbedpmpaaGreatDoorYSum
namespace Go.Proofs.YtgccjefbedpmpaaGreatDoor
open Go.RowKit
set_option maxRecDepth 100000
set_option maxHeartbeats 8000000
def P (i:Nat):Int:=(pl 310)[i]?.getD 0
def rt (k1 k2 j:Nat):Value:=.int .u32 (if j<k2 then ptF (P j) 2 37 % 4294967296 else if 8≤j∧j<8+k1 then ptF (P (j-8)) 3 37 % 4294967296 else 0)
theorem rt_step1 (k j:Nat):(if j=8+k then Value.int .u32 (ptF (P k) 3 37 % 4294967296) else rt k 0 j)=rt (k+1) 0 j:=by
 unfold rt
 by_cases h:j=8+k
 ·subst h;simp
 ·have e:(8≤j∧j<8+(k+1))↔(8≤j∧j<8+k):=by omega
  rw [if_neg h];simp only [e]
theorem rt_step2 (k j:Nat):(if j=k then Value.int .u32 (ptF (P k) 2 37 % 4294967296) else rt 64 k j)=rt 64 (k+1) j:=by
 unfold rt
 by_cases h:j=k
 ·subst h;simp
 ·have e:j<k+1↔j<k:=by omega
  rw [if_neg h];simp only [e]
theorem info30:(Tryz.prog.info? 80).map (·.size)=some 72:=by kernel_rfl
theorem z72:#[Value.int .u32 0,Value.int .u32 0,Value.int .u32 0,Value.int .u32 0,Value.int .u32 0,Value.int .u32 0,Value.int .u32 0,Value.int .u32 0,Value.int .u32 0,Value.int .u32 0,Value.int .u32 0,Value.int .u32 0,Value.int .u32 0,Value.int .u32 0,Value.int .u32 0,Value.int .u32 0,Value.int .u32 0,Value.int .u32 0,Value.int .u32 0,Value.int .u32 0,Value.int .u32 0,Value.int .u32 0,Value.int .u32 0,Value.int .u32 0,Value.int .u32 0,Value.int .u32 0,Value.int .u32 0,Value.int .u32 0,Value.int .u32 0,Value.int .u32 0,Value.int .u32 0,Value.int .u32 0,Value.int .u32 0,Value.int .u32 0,Value.int .u32 0,Value.int .u32 0,Value.int .u32 0,Value.int .u32 0,Value.int .u32 0,Value.int .u32 0,Value.int .u32 0,Value.int .u32 0,Value.int .u32 0,Value.int .u32 0,Value.int .u32 0,Value.int .u32 0,Value.int .u32 0,Value.int .u32 0,Value.int .u32 0,Value.int .u32 0,Value.int .u32 0,Value.int .u32 0,Value.int .u32 0,Value.int .u32 0,Value.int .u32 0,Value.int .u32 0,Value.int .u32 0,Value.int .u32 0,Value.int .u32 0,Value.int .u32 0,Value.int .u32 0,Value.int .u32 0,Value.int .u32 0,Value.int .u32 0,Value.int .u32 0,Value.int .u32 0,Value.int .u32 0,Value.int .u32 0,Value.int .u32 0,Value.int .u32 0,Value.int .u32 0,Value.int .u32 0]=rowOf 72 (rt 0 0):=by
 have:rowOf 72 (fun _=>Value.int .u32 0)=rowOf 72 (rt 0 0):=rowOf_congr fun j _=>by unfold rt;rw [if_neg (by omega),if_neg (by omega)]
 rw [← this];rfl
theorem zc30:Tryz.zeroCells80=rowOf 72 (rt 0 0):=z72
theorem rt_rel1 {w:World} {g k:Nat} (h:RowIs w g 80 72 (rt k 0)):RowIs (w.setCell ⟨g,8+k,none⟩ (.int .u32 (ptF (P k) 3 37 % 4294967296))) g 80 72 (rt (k+1) 0):=(h.set _ _).congr fun j _=>rt_step1 k j
theorem rt_rel2 {w:World} {g k:Nat} (h:RowIs w g 80 72 (rt 64 k)):RowIs (w.setCell ⟨g,k,none⟩ (.int .u32 (ptF (P k) 2 37 % 4294967296))) g 80 72 (rt 64 (k+1)):=(h.set _ _).congr fun j _=>rt_step2 k j
theorem own_get {w:World} {base g cap:Nat} (h:w.ownsRow base 41 1 (.slice (some ⟨g,0,none⟩) 64 cap) 64 (u64s (pl 310))) {i:Nat} (hi:i<64):w.cell? ⟨g,i,none⟩=some (.int .u64 (P i)):=by
 have hl:i<(pl 310).length:=by rw [pl_310];exact hi
 rw [h.cellAt i (by omega)];simp [u64s,P,hl]
def PC (w:World) (g:Nat):Prop:=g<w.heap.size∧∀ i,i<64→w.cell? ⟨g,i,none⟩=some (.int .u64 (P i))
theorem PC.below {w w':World} {g:Nat} (h:PC w g) (hb:Below w.heap.size w w'):PC w' g:=⟨Nat.lt_of_lt_of_le h.1 hb.size,fun i hi=>(hb.cell (p:=⟨g,i,none⟩) h.1).trans (h.2 i hi)⟩
theorem PC.set {w:World} {g:Nat} (h:PC w g) {a:Addr} (ha:a.block≠g) (v:Value):PC (w.setCell a v) g:=
 ⟨by simpa [World.setCell] using h.1,fun i hi=>(World.cell?_of_block (w:=w) (a:=⟨g,i,none⟩) (heap_setCell_other _ _ _ _ (fun e=>ha e.symm))).trans (h.2 i hi)⟩
theorem newRoots_any (w:World) :
  Calls Tryz.prog 41 #[] w fun e w'=>e=.returned (.agg (rowOf 72 (rt 64 8)))∧Below w.heap.size w w':=by
 go_enter Tryz.func41,Tryz.ntmps41
 go_wp2_with (go_at_call 70;refine (primes_any _).mono ?_;rintro e w1 ⟨v,rfl,hown,hb1⟩)
 have hr0:RowIs w1 w.heap.size 80 72 (rt 0 0):=RowIs.below (RowIs.of (heap_alloc2_old _ _ _) zc30) hb1 (by simp;omega)
 have hr1:RowIs w1 (w.heap.size+1) 80 72 (rt 0 0):=RowIs.below (RowIs.of (heap_alloc2_new _ _ _) zc30) hb1 (by simp)
 have hbw:Below w.heap.size w w1:=(((Below.refl _ _).alloc (Nat.le_refl _) _).alloc (by simp) _).trans (hb1.mono (by simp;omega))
 have hbs:w.heap.size+2≤w1.heap.size:=by have:=hb1.size;simpa using this
 obtain ⟨ao,cap,rfl,hcl⟩:=own_view hown
 obtain ⟨gl,rfl,_⟩:=hcl 0 (by omega)
 have hgl:=hown.lt gl rfl
 have hpc:PC w1 gl:=⟨hgl.2,fun i hi=>own_get hown hi⟩
 have hgl2:w.heap.size+2≤gl:=by have:=hgl.1;simpa using this
 clear hcl hb1 hgl hown
 go_loopw [3] (fun i wr=>∃ k:Nat,k≤64∧i=.int .i64 k∧RowIs wr (w.heap.size+1) 80 72 (rt k 0)∧RowIs wr w.heap.size 80 72 (rt 0 0)∧PC wr gl∧Below w.heap.size w wr)
  (fun i _=>64-(intOf i).toNat)
 case atStart=>exact ⟨0,by omega,rfl,hr1,hr0,hpc,hbw⟩
 case round=>
  clear hr1 hr0 hpc hbw hbs
  obtain ⟨k,hk,rfl,hr1,hr0,hpc,hbl⟩:=hrel
  by_cases hlt:k<64
  ·have cp:=hpc.2 k hlt
   have d1:∀ wx,Below wr.heap.size wr wx→wx.cell? ⟨w.heap.size+1,8+k,none⟩=some (rt k 0 (8+k))∧wx.frozen? ⟨w.heap.size+1,8+k,none⟩=false:=fun wx hx=>⟨(hr1.below hx hr1.lt).cell (by omega),(hr1.below hx hr1.lt).free _⟩
   have D1:Hid (∀ wx,Below wr.heap.size wr wx→wx.cell? ⟨w.heap.size+1,8+k,none⟩=some (rt k 0 (8+k))∧wx.frozen? ⟨w.heap.size+1,8+k,none⟩=false):=d1
   clear d1
   go_wp2_with (go_at_call 71;refine (part_any (P k) 3 (by omega) _).mono ?_;rintro e w2 ⟨rfl,hb2⟩;obtain ⟨q1,q2⟩:=D1.out w2 hb2)
   go_roundw
   case rel=>exact ⟨k+1,by omega,by go_num,rt_rel1 (hr1.below hb2 hr1.lt),(hr0.below hb2 hr0.lt).setOther (by show w.heap.size+1≠w.heap.size;omega) _,(hpc.below hb2).set (by show w.heap.size+1≠gl;omega) _,(hbl.trans (hb2.mono hbl.size)).setCell (by show w.heap.size≤w.heap.size+1;omega) _⟩
   case measure=>simp [intOf];omega
  ·obtain rfl:k=64:=by omega
   go_wp2
   go_loopw [4] (fun i wr=>∃ k:Nat,k≤8∧i=.int .i64 k∧RowIs wr (w.heap.size+1) 80 72 (rt 64 k)∧RowIs wr w.heap.size 80 72 (rt 0 0)∧PC wr gl∧Below w.heap.size w wr)
    (fun i _=>8-(intOf i).toNat)
   case atStart=>exact ⟨0,by omega,rfl,hr1,hr0,hpc,hbl⟩
   case round=>
    clear hr1 hr0 hpc hbl
    obtain ⟨k,hk,rfl,hr1,hr0,hpc,hbl⟩:=hrel
    by_cases hlt:k<8
    ·have cp:=hpc.2 k (by omega)
     have d1:∀ wx,Below wr.heap.size wr wx→wx.cell? ⟨w.heap.size+1,k,none⟩=some (rt 64 k k)∧wx.frozen? ⟨w.heap.size+1,k,none⟩=false:=fun wx hx=>⟨(hr1.below hx hr1.lt).cell (by omega),(hr1.below hx hr1.lt).free _⟩
     have D1:Hid (∀ wx,Below wr.heap.size wr wx→wx.cell? ⟨w.heap.size+1,k,none⟩=some (rt 64 k k)∧wx.frozen? ⟨w.heap.size+1,k,none⟩=false):=d1
     clear d1
     go_wp2_with (go_at_call 71;refine (part_any (P k) 2 (by omega) _).mono ?_;rintro e w2 ⟨rfl,hb2⟩;obtain ⟨q1,q2⟩:=D1.out w2 hb2)
     go_roundw
     case rel=>
      have R1:=rt_rel2 (hr1.below hb2 hr1.lt)
      have R2:=(hr0.below hb2 hr0.lt).setOther (a:=⟨w.heap.size+1,k,none⟩) (by show w.heap.size+1≠w.heap.size;omega) (.int .u32 (ptF (P k) 2 37 % 4294967296))
      have R3:=(hpc.below hb2).set (a:=⟨w.heap.size+1,k,none⟩) (by show w.heap.size+1≠gl;omega) (.int .u32 (ptF (P k) 2 37 % 4294967296))
      have R4:=(hbl.trans (hb2.mono hbl.size)).setCell (p:=⟨w.heap.size+1,k,none⟩) (by show w.heap.size≤w.heap.size+1;omega) (.int .u32 (ptF (P k) 2 37 % 4294967296))
      (repeat apply Exists.intro)
      exact ⟨⟨k+1,by omega,by go_num,R1,R2,R3,R4⟩,rfl⟩
     case measure=>simp [intOf];omega
    ·obtain rfl:k=8:=by omega
     go_wp2_with (first|(refine wpList_load_row rfl 80 (.tmp 1) rfl (w.heap.size+1) rfl _ _ (0,0) _ hr1 Tryz.underlying80 rfl (by rw [rowOf_size];exact info30) ?_)|(refine wpList_store_row rfl 80 (.tmp 0) (.tmp 30) rfl w.heap.size _ rfl rfl _ _ hr0 (by rw [rowOf_size];exact info30) (by rw [rowOf_size,rowOf_size]) (ints_one _ _ _) ?_))
     exact bodyPost_ret (v:=.agg (rowOf 72 (rt 64 8))) (results_cell_row Tryz.results41 _ _ w.heap.size 80 _ (0,0) _ rfl (hr0.setRow _) Tryz.underlying80 rfl (by rw [rowOf_size];exact info30)) rfl ⟨rfl,below_setRow' hbl (Nat.le_refl _) _⟩
theorem pl_eq:pl 310=[2,3,5,7,11,13,17,19,23,29,31,37,41,43,47,53,59,61,67,71,73,79,83,89,97,101,103,107,109,113,127,131,137,139,149,151,157,163,167,173,179,181,191,193,197,199,211,223,227,229,233,239,241,251,257,263,269,271,277,281,283,293,307,311]:=by decide +kernel
theorem P0:P 0=2:=by rw [P,pl_eq];rfl
theorem P1:P 1=3:=by rw [P,pl_eq];rfl
theorem P2:P 2=5:=by rw [P,pl_eq];rfl
theorem P3:P 3=7:=by rw [P,pl_eq];rfl
theorem P4:P 4=11:=by rw [P,pl_eq];rfl
theorem P5:P 5=13:=by rw [P,pl_eq];rfl
theorem P6:P 6=17:=by rw [P,pl_eq];rfl
theorem P7:P 7=19:=by rw [P,pl_eq];rfl
theorem P8:P 8=23:=by rw [P,pl_eq];rfl
theorem P9:P 9=29:=by rw [P,pl_eq];rfl
theorem P10:P 10=31:=by rw [P,pl_eq];rfl
theorem P11:P 11=37:=by rw [P,pl_eq];rfl
theorem P12:P 12=41:=by rw [P,pl_eq];rfl
theorem P13:P 13=43:=by rw [P,pl_eq];rfl
theorem P14:P 14=47:=by rw [P,pl_eq];rfl
theorem P15:P 15=53:=by rw [P,pl_eq];rfl
theorem P16:P 16=59:=by rw [P,pl_eq];rfl
theorem P17:P 17=61:=by rw [P,pl_eq];rfl
theorem P18:P 18=67:=by rw [P,pl_eq];rfl
theorem P19:P 19=71:=by rw [P,pl_eq];rfl
theorem P20:P 20=73:=by rw [P,pl_eq];rfl
theorem P21:P 21=79:=by rw [P,pl_eq];rfl
theorem P22:P 22=83:=by rw [P,pl_eq];rfl
theorem P23:P 23=89:=by rw [P,pl_eq];rfl
theorem P24:P 24=97:=by rw [P,pl_eq];rfl
theorem P25:P 25=101:=by rw [P,pl_eq];rfl
theorem P26:P 26=103:=by rw [P,pl_eq];rfl
theorem P27:P 27=107:=by rw [P,pl_eq];rfl
theorem P28:P 28=109:=by rw [P,pl_eq];rfl
theorem P29:P 29=113:=by rw [P,pl_eq];rfl
theorem P30:P 30=127:=by rw [P,pl_eq];rfl
theorem P31:P 31=131:=by rw [P,pl_eq];rfl
theorem P32:P 32=137:=by rw [P,pl_eq];rfl
theorem P33:P 33=139:=by rw [P,pl_eq];rfl
theorem P34:P 34=149:=by rw [P,pl_eq];rfl
theorem P35:P 35=151:=by rw [P,pl_eq];rfl
theorem P36:P 36=157:=by rw [P,pl_eq];rfl
theorem P37:P 37=163:=by rw [P,pl_eq];rfl
theorem P38:P 38=167:=by rw [P,pl_eq];rfl
theorem P39:P 39=173:=by rw [P,pl_eq];rfl
theorem P40:P 40=179:=by rw [P,pl_eq];rfl
theorem P41:P 41=181:=by rw [P,pl_eq];rfl
theorem P42:P 42=191:=by rw [P,pl_eq];rfl
theorem P43:P 43=193:=by rw [P,pl_eq];rfl
theorem P44:P 44=197:=by rw [P,pl_eq];rfl
theorem P45:P 45=199:=by rw [P,pl_eq];rfl
theorem P46:P 46=211:=by rw [P,pl_eq];rfl
theorem P47:P 47=223:=by rw [P,pl_eq];rfl
theorem P48:P 48=227:=by rw [P,pl_eq];rfl
theorem P49:P 49=229:=by rw [P,pl_eq];rfl
theorem P50:P 50=233:=by rw [P,pl_eq];rfl
theorem P51:P 51=239:=by rw [P,pl_eq];rfl
theorem P52:P 52=241:=by rw [P,pl_eq];rfl
theorem P53:P 53=251:=by rw [P,pl_eq];rfl
theorem P54:P 54=257:=by rw [P,pl_eq];rfl
theorem P55:P 55=263:=by rw [P,pl_eq];rfl
theorem P56:P 56=269:=by rw [P,pl_eq];rfl
theorem P57:P 57=271:=by rw [P,pl_eq];rfl
theorem P58:P 58=277:=by rw [P,pl_eq];rfl
theorem P59:P 59=281:=by rw [P,pl_eq];rfl
theorem P60:P 60=283:=by rw [P,pl_eq];rfl
theorem P61:P 61=293:=by rw [P,pl_eq];rfl
theorem P62:P 62=307:=by rw [P,pl_eq];rfl
theorem P63:P 63=311:=by rw [P,pl_eq];rfl
def KK (j:Nat):Int:=[1116352408,1899447441,3049323471,3921009573,961987163,1508970993,2453635748,2870763221,3624381080,310598401,607225278,1426881987,1925078388,2162078206,2614888103,3248222580,3835390401,4022224774,264347078,604807628,770255983,1249150122,1555081692,1996064986,2554220882,2821834349,2952996808,3210313671,3336571891,3584528711,113926993,338241895,666307205,773529912,1294757372,1396182291,1695183700,1986661051,2177026350,2456956037,2730485921,2820302411,3259730800,3345764771,3516065817,3600352804,4094571909,275423344,430227734,506948616,659060556,883997877,958139571,1322822218,1537002063,1747873779,1955562222,2024104815,2227730452,2361852424,2428436474,2756734187,3204031479,3329325298].getD j 0
def RV (j:Nat):Int:=if j<8 then H0 j else KK (j-8)
theorem rtv0:rt 64 8 0=.int .u32 (RV 0):=by
 unfold rt
 rw [if_pos (by decide),P0,rootH0];rfl
theorem rtv1:rt 64 8 1=.int .u32 (RV 1):=by
 unfold rt
 rw [if_pos (by decide),P1,rootH1];rfl
theorem rtv2:rt 64 8 2=.int .u32 (RV 2):=by
 unfold rt
 rw [if_pos (by decide),P2,rootH2];rfl
theorem rtv3:rt 64 8 3=.int .u32 (RV 3):=by
 unfold rt
 rw [if_pos (by decide),P3,rootH3];rfl
theorem rtv4:rt 64 8 4=.int .u32 (RV 4):=by
 unfold rt
 rw [if_pos (by decide),P4,rootH4];rfl
theorem rtv5:rt 64 8 5=.int .u32 (RV 5):=by
 unfold rt
 rw [if_pos (by decide),P5,rootH5];rfl
theorem rtv6:rt 64 8 6=.int .u32 (RV 6):=by
 unfold rt
 rw [if_pos (by decide),P6,rootH6];rfl
theorem rtv7:rt 64 8 7=.int .u32 (RV 7):=by
 unfold rt
 rw [if_pos (by decide),P7,rootH7];rfl
theorem rtv8:rt 64 8 8=.int .u32 (RV 8):=by
 unfold rt
 rw [if_neg (by decide),if_pos (by decide),show P (8-8)=2 from P0,rootK0];rfl
theorem rtv9:rt 64 8 9=.int .u32 (RV 9):=by
 unfold rt
 rw [if_neg (by decide),if_pos (by decide),show P (9-8)=3 from P1,rootK1];rfl
theorem rtv10:rt 64 8 10=.int .u32 (RV 10):=by
 unfold rt
 rw [if_neg (by decide),if_pos (by decide),show P (10-8)=5 from P2,rootK2];rfl
theorem rtv11:rt 64 8 11=.int .u32 (RV 11):=by
 unfold rt
 rw [if_neg (by decide),if_pos (by decide),show P (11-8)=7 from P3,rootK3];rfl
theorem rtv12:rt 64 8 12=.int .u32 (RV 12):=by
 unfold rt
 rw [if_neg (by decide),if_pos (by decide),show P (12-8)=11 from P4,rootK4];rfl
theorem rtv13:rt 64 8 13=.int .u32 (RV 13):=by
 unfold rt
 rw [if_neg (by decide),if_pos (by decide),show P (13-8)=13 from P5,rootK5];rfl
theorem rtv14:rt 64 8 14=.int .u32 (RV 14):=by
 unfold rt
 rw [if_neg (by decide),if_pos (by decide),show P (14-8)=17 from P6,rootK6];rfl
theorem rtv15:rt 64 8 15=.int .u32 (RV 15):=by
 unfold rt
 rw [if_neg (by decide),if_pos (by decide),show P (15-8)=19 from P7,rootK7];rfl
theorem rtv16:rt 64 8 16=.int .u32 (RV 16):=by
 unfold rt
 rw [if_neg (by decide),if_pos (by decide),show P (16-8)=23 from P8,rootK8];rfl
theorem rtv17:rt 64 8 17=.int .u32 (RV 17):=by
 unfold rt
 rw [if_neg (by decide),if_pos (by decide),show P (17-8)=29 from P9,rootK9];rfl
theorem rtv18:rt 64 8 18=.int .u32 (RV 18):=by
 unfold rt
 rw [if_neg (by decide),if_pos (by decide),show P (18-8)=31 from P10,rootK10];rfl
theorem rtv19:rt 64 8 19=.int .u32 (RV 19):=by
 unfold rt
 rw [if_neg (by decide),if_pos (by decide),show P (19-8)=37 from P11,rootK11];rfl
theorem rtv20:rt 64 8 20=.int .u32 (RV 20):=by
 unfold rt
 rw [if_neg (by decide),if_pos (by decide),show P (20-8)=41 from P12,rootK12];rfl
theorem rtv21:rt 64 8 21=.int .u32 (RV 21):=by
 unfold rt
 rw [if_neg (by decide),if_pos (by decide),show P (21-8)=43 from P13,rootK13];rfl
theorem rtv22:rt 64 8 22=.int .u32 (RV 22):=by
 unfold rt
 rw [if_neg (by decide),if_pos (by decide),show P (22-8)=47 from P14,rootK14];rfl
theorem rtv23:rt 64 8 23=.int .u32 (RV 23):=by
 unfold rt
 rw [if_neg (by decide),if_pos (by decide),show P (23-8)=53 from P15,rootK15];rfl
theorem rtv24:rt 64 8 24=.int .u32 (RV 24):=by
 unfold rt
 rw [if_neg (by decide),if_pos (by decide),show P (24-8)=59 from P16,rootK16];rfl
theorem rtv25:rt 64 8 25=.int .u32 (RV 25):=by
 unfold rt
 rw [if_neg (by decide),if_pos (by decide),show P (25-8)=61 from P17,rootK17];rfl
theorem rtv26:rt 64 8 26=.int .u32 (RV 26):=by
 unfold rt
 rw [if_neg (by decide),if_pos (by decide),show P (26-8)=67 from P18,rootK18];rfl
theorem rtv27:rt 64 8 27=.int .u32 (RV 27):=by
 unfold rt
 rw [if_neg (by decide),if_pos (by decide),show P (27-8)=71 from P19,rootK19];rfl
theorem rtv28:rt 64 8 28=.int .u32 (RV 28):=by
 unfold rt
 rw [if_neg (by decide),if_pos (by decide),show P (28-8)=73 from P20,rootK20];rfl
theorem rtv29:rt 64 8 29=.int .u32 (RV 29):=by
 unfold rt
 rw [if_neg (by decide),if_pos (by decide),show P (29-8)=79 from P21,rootK21];rfl
theorem rtv30:rt 64 8 30=.int .u32 (RV 30):=by
 unfold rt
 rw [if_neg (by decide),if_pos (by decide),show P (30-8)=83 from P22,rootK22];rfl
theorem rtv31:rt 64 8 31=.int .u32 (RV 31):=by
 unfold rt
 rw [if_neg (by decide),if_pos (by decide),show P (31-8)=89 from P23,rootK23];rfl
theorem rtv32:rt 64 8 32=.int .u32 (RV 32):=by
 unfold rt
 rw [if_neg (by decide),if_pos (by decide),show P (32-8)=97 from P24,rootK24];rfl
theorem rtv33:rt 64 8 33=.int .u32 (RV 33):=by
 unfold rt
 rw [if_neg (by decide),if_pos (by decide),show P (33-8)=101 from P25,rootK25];rfl
theorem rtv34:rt 64 8 34=.int .u32 (RV 34):=by
 unfold rt
 rw [if_neg (by decide),if_pos (by decide),show P (34-8)=103 from P26,rootK26];rfl
theorem rtv35:rt 64 8 35=.int .u32 (RV 35):=by
 unfold rt
 rw [if_neg (by decide),if_pos (by decide),show P (35-8)=107 from P27,rootK27];rfl
theorem rtv36:rt 64 8 36=.int .u32 (RV 36):=by
 unfold rt
 rw [if_neg (by decide),if_pos (by decide),show P (36-8)=109 from P28,rootK28];rfl
theorem rtv37:rt 64 8 37=.int .u32 (RV 37):=by
 unfold rt
 rw [if_neg (by decide),if_pos (by decide),show P (37-8)=113 from P29,rootK29];rfl
theorem rtv38:rt 64 8 38=.int .u32 (RV 38):=by
 unfold rt
 rw [if_neg (by decide),if_pos (by decide),show P (38-8)=127 from P30,rootK30];rfl
theorem rtv39:rt 64 8 39=.int .u32 (RV 39):=by
 unfold rt
 rw [if_neg (by decide),if_pos (by decide),show P (39-8)=131 from P31,rootK31];rfl
theorem rtv40:rt 64 8 40=.int .u32 (RV 40):=by
 unfold rt
 rw [if_neg (by decide),if_pos (by decide),show P (40-8)=137 from P32,rootK32];rfl
theorem rtv41:rt 64 8 41=.int .u32 (RV 41):=by
 unfold rt
 rw [if_neg (by decide),if_pos (by decide),show P (41-8)=139 from P33,rootK33];rfl
theorem rtv42:rt 64 8 42=.int .u32 (RV 42):=by
 unfold rt
 rw [if_neg (by decide),if_pos (by decide),show P (42-8)=149 from P34,rootK34];rfl
theorem rtv43:rt 64 8 43=.int .u32 (RV 43):=by
 unfold rt
 rw [if_neg (by decide),if_pos (by decide),show P (43-8)=151 from P35,rootK35];rfl
theorem rtv44:rt 64 8 44=.int .u32 (RV 44):=by
 unfold rt
 rw [if_neg (by decide),if_pos (by decide),show P (44-8)=157 from P36,rootK36];rfl
theorem rtv45:rt 64 8 45=.int .u32 (RV 45):=by
 unfold rt
 rw [if_neg (by decide),if_pos (by decide),show P (45-8)=163 from P37,rootK37];rfl
theorem rtv46:rt 64 8 46=.int .u32 (RV 46):=by
 unfold rt
 rw [if_neg (by decide),if_pos (by decide),show P (46-8)=167 from P38,rootK38];rfl
theorem rtv47:rt 64 8 47=.int .u32 (RV 47):=by
 unfold rt
 rw [if_neg (by decide),if_pos (by decide),show P (47-8)=173 from P39,rootK39];rfl
theorem rtv48:rt 64 8 48=.int .u32 (RV 48):=by
 unfold rt
 rw [if_neg (by decide),if_pos (by decide),show P (48-8)=179 from P40,rootK40];rfl
theorem rtv49:rt 64 8 49=.int .u32 (RV 49):=by
 unfold rt
 rw [if_neg (by decide),if_pos (by decide),show P (49-8)=181 from P41,rootK41];rfl
theorem rtv50:rt 64 8 50=.int .u32 (RV 50):=by
 unfold rt
 rw [if_neg (by decide),if_pos (by decide),show P (50-8)=191 from P42,rootK42];rfl
theorem rtv51:rt 64 8 51=.int .u32 (RV 51):=by
 unfold rt
 rw [if_neg (by decide),if_pos (by decide),show P (51-8)=193 from P43,rootK43];rfl
theorem rtv52:rt 64 8 52=.int .u32 (RV 52):=by
 unfold rt
 rw [if_neg (by decide),if_pos (by decide),show P (52-8)=197 from P44,rootK44];rfl
theorem rtv53:rt 64 8 53=.int .u32 (RV 53):=by
 unfold rt
 rw [if_neg (by decide),if_pos (by decide),show P (53-8)=199 from P45,rootK45];rfl
theorem rtv54:rt 64 8 54=.int .u32 (RV 54):=by
 unfold rt
 rw [if_neg (by decide),if_pos (by decide),show P (54-8)=211 from P46,rootK46];rfl
theorem rtv55:rt 64 8 55=.int .u32 (RV 55):=by
 unfold rt
 rw [if_neg (by decide),if_pos (by decide),show P (55-8)=223 from P47,rootK47];rfl
theorem rtv56:rt 64 8 56=.int .u32 (RV 56):=by
 unfold rt
 rw [if_neg (by decide),if_pos (by decide),show P (56-8)=227 from P48,rootK48];rfl
theorem rtv57:rt 64 8 57=.int .u32 (RV 57):=by
 unfold rt
 rw [if_neg (by decide),if_pos (by decide),show P (57-8)=229 from P49,rootK49];rfl
theorem rtv58:rt 64 8 58=.int .u32 (RV 58):=by
 unfold rt
 rw [if_neg (by decide),if_pos (by decide),show P (58-8)=233 from P50,rootK50];rfl
theorem rtv59:rt 64 8 59=.int .u32 (RV 59):=by
 unfold rt
 rw [if_neg (by decide),if_pos (by decide),show P (59-8)=239 from P51,rootK51];rfl
theorem rtv60:rt 64 8 60=.int .u32 (RV 60):=by
 unfold rt
 rw [if_neg (by decide),if_pos (by decide),show P (60-8)=241 from P52,rootK52];rfl
theorem rtv61:rt 64 8 61=.int .u32 (RV 61):=by
 unfold rt
 rw [if_neg (by decide),if_pos (by decide),show P (61-8)=251 from P53,rootK53];rfl
theorem rtv62:rt 64 8 62=.int .u32 (RV 62):=by
 unfold rt
 rw [if_neg (by decide),if_pos (by decide),show P (62-8)=257 from P54,rootK54];rfl
theorem rtv63:rt 64 8 63=.int .u32 (RV 63):=by
 unfold rt
 rw [if_neg (by decide),if_pos (by decide),show P (63-8)=263 from P55,rootK55];rfl
theorem rtv64:rt 64 8 64=.int .u32 (RV 64):=by
 unfold rt
 rw [if_neg (by decide),if_pos (by decide),show P (64-8)=269 from P56,rootK56];rfl
theorem rtv65:rt 64 8 65=.int .u32 (RV 65):=by
 unfold rt
 rw [if_neg (by decide),if_pos (by decide),show P (65-8)=271 from P57,rootK57];rfl
theorem rtv66:rt 64 8 66=.int .u32 (RV 66):=by
 unfold rt
 rw [if_neg (by decide),if_pos (by decide),show P (66-8)=277 from P58,rootK58];rfl
theorem rtv67:rt 64 8 67=.int .u32 (RV 67):=by
 unfold rt
 rw [if_neg (by decide),if_pos (by decide),show P (67-8)=281 from P59,rootK59];rfl
theorem rtv68:rt 64 8 68=.int .u32 (RV 68):=by
 unfold rt
 rw [if_neg (by decide),if_pos (by decide),show P (68-8)=283 from P60,rootK60];rfl
theorem rtv69:rt 64 8 69=.int .u32 (RV 69):=by
 unfold rt
 rw [if_neg (by decide),if_pos (by decide),show P (69-8)=293 from P61,rootK61];rfl
theorem rtv70:rt 64 8 70=.int .u32 (RV 70):=by
 unfold rt
 rw [if_neg (by decide),if_pos (by decide),show P (70-8)=307 from P62,rootK62];rfl
theorem rtv71:rt 64 8 71=.int .u32 (RV 71):=by
 unfold rt
 rw [if_neg (by decide),if_pos (by decide),show P (71-8)=311 from P63,rootK63];rfl
theorem rt_vals:rowOf 72 (rt 64 8)=rowOf 72 (fun j=>.int .u32 (RV j)):=rowOf_congr fun j hj=>by
 match j,hj with
 | 0,_=>exact rtv0
 | 1,_=>exact rtv1
 | 2,_=>exact rtv2
 | 3,_=>exact rtv3
 | 4,_=>exact rtv4
 | 5,_=>exact rtv5
 | 6,_=>exact rtv6
 | 7,_=>exact rtv7
 | 8,_=>exact rtv8
 | 9,_=>exact rtv9
 | 10,_=>exact rtv10
 | 11,_=>exact rtv11
 | 12,_=>exact rtv12
 | 13,_=>exact rtv13
 | 14,_=>exact rtv14
 | 15,_=>exact rtv15
 | 16,_=>exact rtv16
 | 17,_=>exact rtv17
 | 18,_=>exact rtv18
 | 19,_=>exact rtv19
 | 20,_=>exact rtv20
 | 21,_=>exact rtv21
 | 22,_=>exact rtv22
 | 23,_=>exact rtv23
 | 24,_=>exact rtv24
 | 25,_=>exact rtv25
 | 26,_=>exact rtv26
 | 27,_=>exact rtv27
 | 28,_=>exact rtv28
 | 29,_=>exact rtv29
 | 30,_=>exact rtv30
 | 31,_=>exact rtv31
 | 32,_=>exact rtv32
 | 33,_=>exact rtv33
 | 34,_=>exact rtv34
 | 35,_=>exact rtv35
 | 36,_=>exact rtv36
 | 37,_=>exact rtv37
 | 38,_=>exact rtv38
 | 39,_=>exact rtv39
 | 40,_=>exact rtv40
 | 41,_=>exact rtv41
 | 42,_=>exact rtv42
 | 43,_=>exact rtv43
 | 44,_=>exact rtv44
 | 45,_=>exact rtv45
 | 46,_=>exact rtv46
 | 47,_=>exact rtv47
 | 48,_=>exact rtv48
 | 49,_=>exact rtv49
 | 50,_=>exact rtv50
 | 51,_=>exact rtv51
 | 52,_=>exact rtv52
 | 53,_=>exact rtv53
 | 54,_=>exact rtv54
 | 55,_=>exact rtv55
 | 56,_=>exact rtv56
 | 57,_=>exact rtv57
 | 58,_=>exact rtv58
 | 59,_=>exact rtv59
 | 60,_=>exact rtv60
 | 61,_=>exact rtv61
 | 62,_=>exact rtv62
 | 63,_=>exact rtv63
 | 64,_=>exact rtv64
 | 65,_=>exact rtv65
 | 66,_=>exact rtv66
 | 67,_=>exact rtv67
 | 68,_=>exact rtv68
 | 69,_=>exact rtv69
 | 70,_=>exact rtv70
 | 71,_=>exact rtv71
 | n+72,h=>exact absurd h (by omega)
theorem roots_any (w:World):Calls Tryz.prog 41 #[] w fun e w'=>e=.returned (.agg (rowOf 72 fun j=>.int .u32 (RV j)))∧Below w.heap.size w w':=by
 have h:=newRoots_any w
 rw [rt_vals] at h
 exact h
theorem KK_w (j:Nat):W32 (KK j):=by
 have h:∀ i,i<64→W32 (KK i):=by
  intro i hi
  have h:((List.range 64).all fun i=>decide (0≤KK i)&&decide (KK i<4294967296))=true:=by decide +kernel
  rw [List.all_eq_true] at h
  have:=h i (List.mem_range.2 hi)
  simp only [Bool.and_eq_true,decide_eq_true_eq] at this
  exact this
 by_cases hj:j<64
 ·exact h j hj
 ·unfold KK W32;rw [List.getD_eq_getElem?_getD,List.getElem?_eq_none (by simp;omega)];decide
def mB (m:ByteArray) (i:Nat):Int:=((m.data.toList[i]?.getD 0).toNat:Int)
theorem idx_str (m:ByteArray) (i:Nat) (c:Int) (hc:c=i) (h:i<m.size) (w:World):(Instr.index 9 (.string m) (.int .i64 c)).run Tryz.prog w=.ok (.int .u8 (mB m i)) w:=by
 subst hc
 rw [run_index_string w _ _ _ _ Tryz.underlying9,dif_pos ⟨by omega,by omega⟩]
 have e:m.data.toList[i]?=some m[i]:=by rw [List.getElem?_eq_getElem (by simpa using h)];rfl
 simp only [Int.toNat_natCast,mB,e,Option.getD_some]
theorem mB_u8 (m:ByteArray) (i:Nat):0≤mB m i∧mB m i≤255:=by
 unfold mB;have:=(m.data.toList[i]?.getD 0).toNat_lt;omega
theorem blk_rel1 {wr:World} {g:Nat} {m:Nat→Int} {k:Nat} (h16:k<16) (hr:RowIs wr g 78 64 (schTo m k)):RowIs (wr.setCell ⟨g,k,none⟩ (Value.int IntKind.u32 (bits BinOp.or IntKind.u32 (bits BinOp.or IntKind.u32 (bits BinOp.or IntKind.u32 (m (4*k)*16777216) (m (4*k+1)*65536)) (m (4*k+2)*256)) (m (4*k+3))))).drew g 78 64 (schTo m (k+1)):=by
 refine ((hr.set k _).drew).congr fun j _=>?_
 rw [← schTo_step,sch_lt m h16];rfl
theorem blk_rel2 {wr:World} {g:Nat} {m:Nat→Int} {k:Nat} (h16:16≤k) (hr:RowIs wr g 78 64 (schTo m k)):RowIs (wr.setCell ⟨g,k,none⟩ (Value.int IntKind.u32 ((bits BinOp.xor IntKind.u32 (bits BinOp.xor IntKind.u32 (rr (sch m (k-2)) 17) (rr (sch m (k-2)) 19)) (sch m (k-2) / 1024)+sch m (k-7)+bits BinOp.xor IntKind.u32 (bits BinOp.xor IntKind.u32 (rr (sch m (k-15)) 7) (rr (sch m (k-15)) 18)) (sch m (k-15) / 8)+sch m (k-16)) % 4294967296))).drew.drew.drew.drew.drew g 78 64 (schTo m (k+1)):=by
 refine (hr.set k _).congr fun j _=>?_
 rw [← schTo_step,sch_ge m h16];rfl
theorem RowIs.set8r {w:World} {g:Nat} {t:TypeId} {f:Nat→Value} (h:RowIs w g t 8 f) (v:Nat→Value):RowIs ((((((((w.setCell ⟨g,7,none⟩ (v 7)).setCell ⟨g,6,none⟩ (v 6)).setCell ⟨g,5,none⟩ (v 5)).setCell ⟨g,4,none⟩ (v 4)).setCell ⟨g,3,none⟩ (v 3)).setCell ⟨g,2,none⟩ (v 2)).setCell ⟨g,1,none⟩ (v 1)).setCell ⟨g,0,none⟩ (v 0)) g t 8 v:=by
 refine ((((((((h.set 7 _).set 6 _).set 5 _).set 4 _).set 3 _).set 2 _).set 1 _).set 0 _).congr fun j hj=>?_
 match j,hj with
 | 0,_=>rfl
 | 1,_=>rfl
 | 2,_=>rfl
 | 3,_=>rfl
 | 4,_=>rfl
 | 5,_=>rfl
 | 6,_=>rfl
 | 7,_=>rfl
theorem blk_rel3 {wr:World} {g:Nat} {K X s st:Nat→Int} {k:Nat} (hst:stt K X s k=st) (hr:RowIs wr g 77 8 (fun j=>.int .u32 (st j))) {v0 v4:Int} (h0:v0=rnd (K k) (X k) st 0) (h4:v4=rnd (K k) (X k) st 4) :
  RowIs ((((((((wr.setCell ⟨g,7,none⟩ (.int .u32 (st 6))).setCell ⟨g,6,none⟩ (.int .u32 (st 5))).setCell ⟨g,5,none⟩ (.int .u32 (st 4))).setCell ⟨g,4,none⟩ (.int .u32 v4)).setCell ⟨g,3,none⟩ (.int .u32 (st 2))).setCell ⟨g,2,none⟩ (.int .u32 (st 1))).setCell ⟨g,1,none⟩ (.int .u32 (st 0))).setCell ⟨g,0,none⟩ (.int .u32 v0)) g 77 8 (fun j=>.int .u32 (stt K X s (k+1) j)):=by
 subst h0;subst h4;subst hst
 exact hr.set8r (fun j=>.int .u32 (stt K X s (k+1) j))
theorem below_set8r {B:Nat} {a w:World} {g:Nat} (h:Below B a w) (hg:B≤g) (v0 v1 v2 v3 v4 v5 v6 v7:Value):Below B a ((((((((w.setCell ⟨g,7,none⟩ v7).setCell ⟨g,6,none⟩ v6).setCell ⟨g,5,none⟩ v5).setCell ⟨g,4,none⟩ v4).setCell ⟨g,3,none⟩ v3).setCell ⟨g,2,none⟩ v2).setCell ⟨g,1,none⟩ v1).setCell ⟨g,0,none⟩ v0):=
 (((((((h.setCell hg _).setCell hg _).setCell hg _).setCell hg _).setCell hg _).setCell hg _).setCell hg _).setCell hg _
theorem add_end (K X s:Nat→Int):rowOf 8 (addTo s (stt K X s 64) 8)=rowOf 8 (fun j=>.int .u32 (blk K X s j)):=rowOf_congr fun j hj=>by simp [addTo,hj,blk,Int.add_comm]
theorem block_any (s RV:Nat→Int) (m:ByteArray) (hm:m.size=64) (hsw:∀ j,W32 (s j)) (w:World) :
  Calls Tryz.prog 205 #[.agg (rowOf 72 fun j=>.int .u32 (RV j)),.agg #[.int .u32 (s 0),.int .u32 (s 1),.int .u32 (s 2),.int .u32 (s 3),.int .u32 (s 4),.int .u32 (s 5),.int .u32 (s 6),.int .u32 (s 7)],.string m] w fun e w'=>e=.returned (.agg #[.int .u32 (blk (fun k=>RV (8+k)) (sch (mB m)) s 0),.int .u32 (blk (fun k=>RV (8+k)) (sch (mB m)) s 1),.int .u32 (blk (fun k=>RV (8+k)) (sch (mB m)) s 2),.int .u32 (blk (fun k=>RV (8+k)) (sch (mB m)) s 3),.int .u32 (blk (fun k=>RV (8+k)) (sch (mB m)) s 4),.int .u32 (blk (fun k=>RV (8+k)) (sch (mB m)) s 5),.int .u32 (blk (fun k=>RV (8+k)) (sch (mB m)) s 6),.int .u32 (blk (fun k=>RV (8+k)) (sch (mB m)) s 7)])∧Below w.heap.size w w':=by
 have Hm:Hid (m.size=64):=hm
 have hm1:64≤m.size:=by omega
 clear hm
 go_enter Tryz.func205,Tryz.ntmps205
 go_wp2
 go_loopw [8] (fun i wr=>∃ k:Nat,k≤64∧i=.int .i64 k∧RowIs wr (w.heap.size+3) 78 64 (schTo (mB m) k)∧RowIs wr (w.heap.size+2) 77 8 (fun _=>.int .u32 0)∧RowIs wr (w.heap.size+1) 77 8 (fun j=>.int .u32 (s j))∧RowIs wr w.heap.size 80 72 (fun j=>.int .u32 (RV j))∧Below w.heap.size w wr)
  (fun i _=>64-(intOf i).toNat)
 case atStart=>exact ⟨0,by omega,rfl,RowIs.of (rows4 w _ _ _ _).2.2.2.1 (row64_lit.trans (row64_zero _)),RowIs.of (rows4 w _ _ _ _).2.2.1 rfl,RowIs.of (rows4 w _ _ _ _).2.1 rfl,(rows4 w _ _ _ _).1,(rows4 w _ _ _ _).2.2.2.2⟩
 case round=>
  obtain ⟨k,hk,rfl,hX,hz,hs,hR,hbl⟩:=hrel
  by_cases hlt:k<64
  ·by_cases h16:k<16
   ·have d1:=hX.cell hlt
    have f1:=hX.free k
    have j0:=idx_str m (4*k) (4*(k:Int)) (by omega) (by omega)
    have y0:=mB_u8 m (4*k)
    have j1:=idx_str m (4*k+1) (4*(k:Int)+1) (by omega) (by omega)
    have y1:=mB_u8 m (4*k+1)
    have j2:=idx_str m (4*k+2) (4*(k:Int)+2) (by omega) (by omega)
    have y2:=mB_u8 m (4*k+2)
    have j3:=idx_str m (4*k+3) (4*(k:Int)+3) (by omega) (by omega)
    have y3:=mB_u8 m (4*k+3)
    go_wp2
    go_region
    go_wp2
    go_roundw
    case rel=>exact ⟨k+1,by omega,by go_num,blk_rel1 h16 hX,(hz.setOther (by show w.heap.size+1+1+1≠w.heap.size+2;omega) _).drew,(hs.setOther (by show w.heap.size+1+1+1≠w.heap.size+1;omega) _).drew,(hR.setOther (by show w.heap.size+1+1+1≠w.heap.size;omega) _).drew,(hbl.setCell (by show w.heap.size≤w.heap.size+1+1+1;omega) _).drew⟩
    case measure=>simp [intOf];omega
   ·have e0:=(hX.cell (show k-2<64 by omega)).trans (congrArg some (schTo_lt (show k-2<k by omega)))
    have e1:=(hX.cell (show k-7<64 by omega)).trans (congrArg some (schTo_lt (show k-7<k by omega)))
    have e2:=(hX.cell (show k-15<64 by omega)).trans (congrArg some (schTo_lt (show k-15<k by omega)))
    have e3:=(hX.cell (show k-16<64 by omega)).trans (congrArg some (schTo_lt (show k-16<k by omega)))
    have d1:=hX.cell hlt
    have f1:=hX.free k
    have w2:=sch_w (mB m) (k-2)
    have w15:=sch_w (mB m) (k-15)
    have w2a:=w2.1
    have w2b:=w2.2
    have w15a:=w15.1
    have w15b:=w15.2
    go_wp2_with (first|(go_at_call_of 264 (Value.int IntKind.i64 7);refine (right7 _ _ w15).mono ?_;rintro e wx ⟨rfl,rfl⟩)|(go_at_call_of 264 (Value.int IntKind.i64 18);refine (right18 _ _ w15).mono ?_;rintro e wx ⟨rfl,rfl⟩)|(go_at_call_of 264 (Value.int IntKind.i64 17);refine (right17 _ _ w2).mono ?_;rintro e wx ⟨rfl,rfl⟩)|(go_at_call_of 264 (Value.int IntKind.i64 19);refine (right19 _ _ w2).mono ?_;rintro e wx ⟨rfl,rfl⟩))
    go_region
    go_wp2
    go_roundw
    case rel=>exact ⟨k+1,by omega,by go_num,blk_rel2 (by omega) hX,(hz.setOther (by show w.heap.size+1+1+1≠w.heap.size+2;omega) _).drew,(hs.setOther (by show w.heap.size+1+1+1≠w.heap.size+1;omega) _).drew,(hR.setOther (by show w.heap.size+1+1+1≠w.heap.size;omega) _).drew,(hbl.setCell (by show w.heap.size≤w.heap.size+1+1+1;omega) _).drew.drew.drew.drew.drew⟩
    case measure=>simp [intOf];omega
  ·obtain rfl:k=64:=by omega
   obtain ⟨wb,rfl⟩:∃ x,x=wr:=⟨_,rfl⟩
   have hX2:RowIs wb (w.heap.size+3) 78 64 (fun j=>.int .u32 (sch (mB m) j)):=hX.congr fun j hj=>schTo_lt hj
   generalize hXX:sch (mB m)=X at hX2
   have HXX:Hid (sch (mB m)=X):=hXX
   clear hXX
   clear hX hm1 Hm
   have c0:=hs.cell (show 0<8 by omega)
   have c1:=hs.cell (show 1<8 by omega)
   have c2:=hs.cell (show 2<8 by omega)
   have c3:=hs.cell (show 3<8 by omega)
   have c4:=hs.cell (show 4<8 by omega)
   have c5:=hs.cell (show 5<8 by omega)
   have c6:=hs.cell (show 6<8 by omega)
   have c7:=hs.cell (show 7<8 by omega)
   go_wp2
   clear c0 c1 c2 c3 c4 c5 c6 c7
   go_loopw [14] (fun i wr=>∃ k:Nat,k≤64∧i=.int .i64 k∧RowIs wr wb.heap.size 77 8 (fun j=>.int .u32 (stt (fun k=>RV (8+k)) X s k j))∧Below wb.heap.size wb wr)
    (fun i _=>64-(intOf i).toNat)
   case atStart=>exact ⟨0,by omega,rfl,RowIs.last rfl rfl,(Below.refl _ _).alloc (Nat.le_refl _) _⟩
   case round=>
    obtain ⟨k,hk,rfl,hr,hb2⟩:=hrel
    by_cases hlt:k<64
    ·have sw:=stt_w (fun k=>RV (8+k)) X hsw k
     generalize hst:stt (fun k=>RV (8+k)) X s k=st at hr sw
     have Hst:Hid (stt (fun k=>RV (8+k)) X s k=st):=hst
     have c0:=hr.cell (show 0<8 by omega)
     have c1:=hr.cell (show 1<8 by omega)
     have c2:=hr.cell (show 2<8 by omega)
     have c3:=hr.cell (show 3<8 by omega)
     have c4:=hr.cell (show 4<8 by omega)
     have c5:=hr.cell (show 5<8 by omega)
     have c6:=hr.cell (show 6<8 by omega)
     have c7:=hr.cell (show 7<8 by omega)
     have cx:=(hX2.below hb2 hX2.lt).cell hlt
     have cr:=(hR.below hb2 hR.lt).cell (show 8+k<72 by omega)
     have fr:=hr.free
     have w4:=sw 4
     have w0:=sw 0
     have lk:(k:Int)<64:=by omega
     clear hst sw
     go_wp2
     go_quiet ((first|(go_at_call_of 264 (Value.int IntKind.i64 6);refine (right6 _ _ w4).mono ?_;rintro e wx ⟨rfl,rfl⟩;first|exact ⟨rfl,_,World.drew_drewN _ _⟩|exact ⟨rfl,_,(World.drew_drewN _ _).trans (World.drewN_congr _ (Nat.add_assoc _ _ _))⟩)|(go_at_call_of 264 (Value.int IntKind.i64 11);refine (right11 _ _ w4).mono ?_;rintro e wx ⟨rfl,rfl⟩;first|exact ⟨rfl,_,World.drew_drewN _ _⟩|exact ⟨rfl,_,(World.drew_drewN _ _).trans (World.drewN_congr _ (Nat.add_assoc _ _ _))⟩)|(go_at_call_of 264 (Value.int IntKind.i64 25);refine (right25 _ _ w4).mono ?_;rintro e wx ⟨rfl,rfl⟩;first|exact ⟨rfl,_,World.drew_drewN _ _⟩|exact ⟨rfl,_,(World.drew_drewN _ _).trans (World.drewN_congr _ (Nat.add_assoc _ _ _))⟩)))
     go_wp2
     go_quiet (fail)
     go_wp2
     go_quiet ((first|(go_at_call_of 264 (Value.int IntKind.i64 2);refine (right2 _ _ w0).mono ?_;rintro e wx ⟨rfl,rfl⟩;first|exact ⟨rfl,_,World.drew_drewN _ _⟩|exact ⟨rfl,_,(World.drew_drewN _ _).trans (World.drewN_congr _ (Nat.add_assoc _ _ _))⟩)|(go_at_call_of 264 (Value.int IntKind.i64 13);refine (right13 _ _ w0).mono ?_;rintro e wx ⟨rfl,rfl⟩;first|exact ⟨rfl,_,World.drew_drewN _ _⟩|exact ⟨rfl,_,(World.drew_drewN _ _).trans (World.drewN_congr _ (Nat.add_assoc _ _ _))⟩)|(go_at_call_of 264 (Value.int IntKind.i64 22);refine (right22 _ _ w0).mono ?_;rintro e wx ⟨rfl,rfl⟩;first|exact ⟨rfl,_,World.drew_drewN _ _⟩|exact ⟨rfl,_,(World.drew_drewN _ _).trans (World.drewN_congr _ (Nat.add_assoc _ _ _))⟩)))
     go_wp2
     go_roundw
     case rel=>exact ⟨k+1,by omega,by go_num,blk_rel3 Hst.out (hr.drewN _) (by simp only [rnd,S1,S0,ch,mj,xr,an,nt];omega) rfl,below_set8r (Below.drewsN hb2 _) (Nat.le_refl _) _ _ _ _ _ _ _ _⟩
     case measure=>simp [intOf];omega
    ·obtain rfl:k=64:=by omega
     have hs2:RowIs wr (w.heap.size+1) 77 8 (addTo s (stt (fun k=>RV (8+k)) X s 64) 0):=(hs.below hb2 hs.lt).congr fun j _=>by simp [addTo]
     have hz2:=hz.below hb2 hz.lt
     have hbs:=hbl.size
     have hgs:=hs.lt
     generalize hae:stt (fun k=>RV (8+k)) X s 64=a at hr hs2
     have Hae:Hid (stt (fun k=>RV (8+k)) X s 64=a):=hae
     clear hae hX2 hR
     have hbw:=hbl.trans (hb2.mono hbs)
     clear hb2 hbl hs hz
     go_wp2
     go_loopw [20] (fun i wr=>∃ k:Nat,k≤8∧i=.int .i64 k∧RowIs wr (w.heap.size+1) 77 8 (addTo s a k)∧RowIs wr wb.heap.size 77 8 (fun j=>.int .u32 (a j))∧RowIs wr (w.heap.size+2) 77 8 (fun _=>.int .u32 0)∧Below w.heap.size w wr)
      (fun i _=>8-(intOf i).toNat)
     case atStart=>exact ⟨0,by omega,rfl,hs2,hr,hz2,hbw⟩
     case round=>
      clear hs2 hr hz2 hbw
      obtain ⟨k,hk,rfl,hs2,hr,hz2,hbw⟩:=hrel
      by_cases hlt:k<8
      ·have c0:=(hs2.cell hlt).trans (congrArg some (addTo_at s a k))
       have c1:=hr.cell hlt
       have f0:=hs2.free k
       have lk:(k:Int)<8:=by omega
       go_wp2
       go_region
       go_wp2
       go_roundw
       case rel=>
        have R1:=mix_rel2 hs2
        have R2:=(hr.setOther (a:=⟨w.heap.size+1,k,none⟩) (by show w.heap.size+1≠wb.heap.size;omega) (.int .u32 ((s k+a k) % 4294967296))).drew
        have R3:=(hz2.setOther (a:=⟨w.heap.size+1,k,none⟩) (by show w.heap.size+1≠w.heap.size+2;omega) (.int .u32 ((s k+a k) % 4294967296))).drew
        have R4:=(hbw.setCell (p:=⟨w.heap.size+1,k,none⟩) (by show w.heap.size≤w.heap.size+1;omega) (.int .u32 ((s k+a k) % 4294967296))).drew
        first|exact ⟨k+1,by omega,by go_num,R1,R2,R3,R4⟩|((repeat apply Exists.intro);exact ⟨⟨k+1,by omega,by go_num,R1,R2,R3,R4⟩,rfl⟩)
       case measure=>simp [intOf];omega
      ·obtain rfl:k=8:=by omega
       go_wp2_with (first|(refine wpList_load_row rfl 77 (.tmp 4) rfl (w.heap.size+1) rfl _ _ (0,0) _ hs2 Tryz.underlying77 rfl info27 ?_)|(refine wpList_store_row rfl 77 (.tmp 6) (.tmp 210) rfl (w.heap.size+2) _ rfl rfl _ _ hz2 info27 rfl (ints_one _ _ _) ?_))
       refine bodyPost_ret (v:=.agg (rowOf 8 (addTo s a 8))) (results_cell_row Tryz.results205 _ _ (w.heap.size+2) 77 _ (0,0) _ rfl (hz2.setRow _) Tryz.underlying77 rfl info27) rfl ⟨?_,below_setRow' hbw (by omega) _⟩
       rw [← Hae.out,add_end,HXX.out];rfl
end Go.Proofs.YtgccjefbedpmpaaGreatDoor

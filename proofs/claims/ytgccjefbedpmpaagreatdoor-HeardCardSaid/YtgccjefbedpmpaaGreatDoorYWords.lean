import Derived.Test.YtgccjefbedpmpaaGreatDoorYWit
import Derived.Test.YtgccjefbedpmpaaGreatDoorProg
import Derived.WalkKit
import Derived.WalkSpells
import Derived.WalkLawsBesides
import Derived.Conc.RwLib
import Derived.Conc.MuLone
import Derived.KernelRfl
namespace Go.Proofs.YtgccjefbedpmpaaGreatDoor
open Go.RowKit
set_option maxRecDepth 100000
set_option maxHeartbeats 8000000
def rr (x:Int) (n:Nat):Int:=bits .or .u32 (x / 2 ^ n) (x*2 ^ (32-n) % 4294967296)
theorem xp (x y:Int):bits .or .u32 x y=bits .or .u32 y x:=by
 simp only [bits];rw [BitVec.or_comm]
def xr (a b:Int):Int:=bits .xor .u32 a b
def an (a b:Int):Int:=bits .and .u32 a b
def nt (a:Int):Int:=bits .xor .u32 4294967295 a
def S0 (x:Int):Int:=xr (xr (rr x 2) (rr x 13)) (rr x 22)
def S1 (x:Int):Int:=xr (xr (rr x 6) (rr x 11)) (rr x 25)
def s0 (x:Int):Int:=xr (xr (rr x 7) (rr x 18)) (x / 8)
def s1 (x:Int):Int:=xr (xr (rr x 17) (rr x 19)) (x / 1024)
def ch (x y z:Int):Int:=xr (an x y) (an (nt x) z)
def mj (x y z:Int):Int:=xr (xr (an x y) (an x z)) (an y z)
def W32 (x:Int):Prop:=0≤x∧x<4294967296
theorem bits_w32 (o:BinOp) (x y:Int):W32 (bits o .u32 x y):=by
 unfold W32;simp only [bits,IntKind.wrap,IntKind.bits,IntKind.signed];simp only [Bool.false_and,Bool.false_eq_true,if_false];omega
theorem xx {k:IntKind} {a b:Int} (h:a=b):Ending.returned (.int k a)=.returned (.int k b):=by rw [h]
theorem tn2:bits .and .u64 (IntKind.u64.wrap (-2)) 31=30:=by decide
theorem turn2 (x:Int) (w:World) (hx:W32 x) :
  Cs 319 #[U3 x,I6 2] w fun e w'=>e=.returned (U3 (rr x 2))∧w'=w:=by
 obtain ⟨h0,h1⟩:=hx;have t:=tn2;go_enter Tryz.func319,Tryz.ntmps319;go_wp2;go_ret;exact ⟨xx (by unfold rr;rw [xp];rfl),rfl⟩
theorem tn13:bits .and .u64 (IntKind.u64.wrap (-13)) 31=19:=by decide
theorem turn13 (x:Int) (w:World) (hx:W32 x) :
  Cs 319 #[U3 x,I6 13] w fun e w'=>e=.returned (U3 (rr x 13))∧w'=w:=by
 obtain ⟨h0,h1⟩:=hx;have t:=tn13;go_enter Tryz.func319,Tryz.ntmps319;go_wp2;go_ret;exact ⟨xx (by unfold rr;rw [xp];rfl),rfl⟩
theorem tn22:bits .and .u64 (IntKind.u64.wrap (-22)) 31=10:=by decide
theorem turn22 (x:Int) (w:World) (hx:W32 x) :
  Cs 319 #[U3 x,I6 22] w fun e w'=>e=.returned (U3 (rr x 22))∧w'=w:=by
 obtain ⟨h0,h1⟩:=hx;have t:=tn22;go_enter Tryz.func319,Tryz.ntmps319;go_wp2;go_ret;exact ⟨xx (by unfold rr;rw [xp];rfl),rfl⟩
theorem tn6:bits .and .u64 (IntKind.u64.wrap (-6)) 31=26:=by decide
theorem turn6 (x:Int) (w:World) (hx:W32 x) :
  Cs 319 #[U3 x,I6 6] w fun e w'=>e=.returned (U3 (rr x 6))∧w'=w:=by
 obtain ⟨h0,h1⟩:=hx;have t:=tn6;go_enter Tryz.func319,Tryz.ntmps319;go_wp2;go_ret;exact ⟨xx (by unfold rr;rw [xp];rfl),rfl⟩
theorem tn11:bits .and .u64 (IntKind.u64.wrap (-11)) 31=21:=by decide
theorem turn11 (x:Int) (w:World) (hx:W32 x) :
  Cs 319 #[U3 x,I6 11] w fun e w'=>e=.returned (U3 (rr x 11))∧w'=w:=by
 obtain ⟨h0,h1⟩:=hx;have t:=tn11;go_enter Tryz.func319,Tryz.ntmps319;go_wp2;go_ret;exact ⟨xx (by unfold rr;rw [xp];rfl),rfl⟩
theorem tn25:bits .and .u64 (IntKind.u64.wrap (-25)) 31=7:=by decide
theorem turn25 (x:Int) (w:World) (hx:W32 x) :
  Cs 319 #[U3 x,I6 25] w fun e w'=>e=.returned (U3 (rr x 25))∧w'=w:=by
 obtain ⟨h0,h1⟩:=hx;have t:=tn25;go_enter Tryz.func319,Tryz.ntmps319;go_wp2;go_ret;exact ⟨xx (by unfold rr;rw [xp];rfl),rfl⟩
theorem tn7:bits .and .u64 (IntKind.u64.wrap (-7)) 31=25:=by decide
theorem turn7 (x:Int) (w:World) (hx:W32 x) :
  Cs 319 #[U3 x,I6 7] w fun e w'=>e=.returned (U3 (rr x 7))∧w'=w:=by
 obtain ⟨h0,h1⟩:=hx;have t:=tn7;go_enter Tryz.func319,Tryz.ntmps319;go_wp2;go_ret;exact ⟨xx (by unfold rr;rw [xp];rfl),rfl⟩
theorem tn18:bits .and .u64 (IntKind.u64.wrap (-18)) 31=14:=by decide
theorem turn18 (x:Int) (w:World) (hx:W32 x) :
  Cs 319 #[U3 x,I6 18] w fun e w'=>e=.returned (U3 (rr x 18))∧w'=w:=by
 obtain ⟨h0,h1⟩:=hx;have t:=tn18;go_enter Tryz.func319,Tryz.ntmps319;go_wp2;go_ret;exact ⟨xx (by unfold rr;rw [xp];rfl),rfl⟩
theorem tn17:bits .and .u64 (IntKind.u64.wrap (-17)) 31=15:=by decide
theorem turn17 (x:Int) (w:World) (hx:W32 x) :
  Cs 319 #[U3 x,I6 17] w fun e w'=>e=.returned (U3 (rr x 17))∧w'=w:=by
 obtain ⟨h0,h1⟩:=hx;have t:=tn17;go_enter Tryz.func319,Tryz.ntmps319;go_wp2;go_ret;exact ⟨xx (by unfold rr;rw [xp];rfl),rfl⟩
theorem tn19:bits .and .u64 (IntKind.u64.wrap (-19)) 31=13:=by decide
theorem turn19 (x:Int) (w:World) (hx:W32 x) :
  Cs 319 #[U3 x,I6 19] w fun e w'=>e=.returned (U3 (rr x 19))∧w'=w:=by
 obtain ⟨h0,h1⟩:=hx;have t:=tn19;go_enter Tryz.func319,Tryz.ntmps319;go_wp2;go_ret;exact ⟨xx (by unfold rr;rw [xp];rfl),rfl⟩
theorem S0_any (x:Int) (w:World) (hx:W32 x) :
  Cs 283 #[U3 x] w fun e w'=>e=.returned (U3 (S0 x))∧w'=w:=by
 go_enter Tryz.func283,Tryz.ntmps283;go_wp2_with fail;refine (turn2 _ _ hx).mono ?_;rintro e w1 ⟨rfl,rfl⟩;go_wp2_with fail;refine (turn13 _ _ hx).mono ?_;rintro e w1 ⟨rfl,rfl⟩;go_wp2_with fail;refine (turn22 _ _ hx).mono ?_;rintro e w1 ⟨rfl,rfl⟩;go_wp2;go_ret;exact ⟨xx rfl,rfl⟩
theorem S1_any (x:Int) (w:World) (hx:W32 x) :
  Cs 281 #[U3 x] w fun e w'=>e=.returned (U3 (S1 x))∧w'=w:=by
 go_enter Tryz.func281,Tryz.ntmps281;go_wp2_with fail;refine (turn6 _ _ hx).mono ?_;rintro e w1 ⟨rfl,rfl⟩;go_wp2_with fail;refine (turn11 _ _ hx).mono ?_;rintro e w1 ⟨rfl,rfl⟩;go_wp2_with fail;refine (turn25 _ _ hx).mono ?_;rintro e w1 ⟨rfl,rfl⟩;go_wp2;go_ret;exact ⟨xx rfl,rfl⟩
theorem s0_any (x:Int) (w:World) (hx:W32 x) :
  Cs 286 #[U3 x] w fun e w'=>e=.returned (U3 (s0 x))∧w'=w:=by
 have hx0:=hx.1;have hx1:=hx.2;go_enter Tryz.func286,Tryz.ntmps286;go_wp2_with fail;refine (turn7 _ _ hx).mono ?_;rintro e w1 ⟨rfl,rfl⟩;go_wp2_with fail;refine (turn18 _ _ hx).mono ?_;rintro e w1 ⟨rfl,rfl⟩;go_wp2;go_ret;exact ⟨xx rfl,rfl⟩
theorem s1_any (x:Int) (w:World) (hx:W32 x) :
  Cs 285 #[U3 x] w fun e w'=>e=.returned (U3 (s1 x))∧w'=w:=by
 have hx0:=hx.1;have hx1:=hx.2;go_enter Tryz.func285,Tryz.ntmps285;go_wp2_with fail;refine (turn17 _ _ hx).mono ?_;rintro e w1 ⟨rfl,rfl⟩;go_wp2_with fail;refine (turn19 _ _ hx).mono ?_;rintro e w1 ⟨rfl,rfl⟩;go_wp2;go_ret;exact ⟨xx rfl,rfl⟩
theorem choose_any (a b c:Int) (w:World) :
  Cs 282 #[U3 a,U3 b,U3 c] w fun e w'=>e=.returned (U3 (ch a b c))∧w'=w:=by
 go_enter Tryz.func282,Tryz.ntmps282;have hs:IntKind.u32.signed=false:=rfl;go_wp2;go_ret;exact ⟨xx rfl,rfl⟩
theorem majority_any (a b c:Int) (w:World) :
  Cs 284 #[U3 a,U3 b,U3 c] w fun e w'=>e=.returned (U3 (mj a b c))∧w'=w:=by
 go_enter Tryz.func284,Tryz.ntmps284;go_wp2;go_ret;exact ⟨xx rfl,rfl⟩
abbrev muLink:Go.Conc.Locks.MuLink:={ lock:=49,unlock:=50,ilock:=90,iunlock:=91,lockSlow:=160,unlockSlow:=163,disable:=156,enable:=158,acquire:=159,relMerge:=161,cas32:=157,add32:=162,tMutex:=112,tIMutex:=110,tPMutex:=165,tPIMutex:=221,tPI32:=223,tUP:=225,tNoCopy:=108,tU32:=39 }
theorem Qk:Go.Conc.Locks.MuLib Tryz.prog muLink:=
 ⟨Tryz.func49,Tryz.func50,Tryz.func90,Tryz.func91,Tryz.func156,Tryz.func158,Tryz.func159,Tryz.func161,Tryz.func157,Tryz.func162,Tryz.underlying110,Tryz.runUnderlying110,Tryz.sizeOf110,Tryz.isAgg110,Tryz.zeroValue110,Tryz.underlying112,Tryz.runUnderlying112,Tryz.sizeOf112,Tryz.isAgg112,Tryz.zeroValue112,Tryz.underlying165,Tryz.runUnderlying165,Tryz.sizeOf165,Tryz.isAgg165,Tryz.zeroValue165,Tryz.underlying221,Tryz.runUnderlying221,Tryz.sizeOf221,Tryz.isAgg221,Tryz.zeroValue221,Tryz.underlying223,Tryz.runUnderlying223,Tryz.sizeOf223,Tryz.isAgg223,Tryz.zeroValue223,Tryz.underlying225,Tryz.runUnderlying225,Tryz.sizeOf225,Tryz.isAgg225,Tryz.zeroValue225,Tryz.underlying108,Tryz.runUnderlying108,Tryz.sizeOf108,Tryz.isAgg108,Tryz.zeroValue108,Tryz.underlying21,Tryz.runUnderlying21,Tryz.sizeOf21,Tryz.isAgg21,Tryz.zeroValue21,(by kernel_rfl)⟩

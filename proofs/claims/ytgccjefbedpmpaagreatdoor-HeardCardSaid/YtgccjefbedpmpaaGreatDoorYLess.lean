import Derived.Test.YtgccjefbedpmpaaGreatDoorYMem
import Derived.Deep.QuietTactic
import Derived.BigQuiet
import Derived.Lib.BufferWrite
import Derived.Deep.WholeRow
namespace Go.Proofs.YtgccjefbedpmpaaGreatDoor
open Go.RowKit
set_option maxRecDepth 100000
set_option maxHeartbeats 8000000
def vv (f av lb c:Int):Int:=IntKind.u64.wrap (IntKind.u64.wrap (f+IntKind.u64.wrap (av*lb))+c)
def st1 (nx:List Int) (a b:Nat) (av lb c:Int):List Int×Int:=
 (nx.set (a+b) (bits .and .u64 (vv (nx[a+b]?.getD 0) av lb c) 4294967295),vv (nx[a+b]?.getD 0) av lb c / 4294967296)
def inn (l:List Int) (av:Int) (a:Nat) (nx:List Int):Nat→List Int×Int
 | 0=>(nx,0)
 | b+1=>st1 (inn l av a nx b).1 a b av (l[b]?.getD 0) (inn l av a nx b).2
def stA (l A nx:List Int) (a:Nat):List Int:=
 (inn l (A[a]?.getD 0) a nx 2).1.set (a+2) (IntKind.u64.wrap ((inn l (A[a]?.getD 0) a nx 2).1[a+2]?.getD 0+(inn l (A[a]?.getD 0) a nx 2).2))
def rowA (l A:List Int) (len:Nat):Nat→List Int
 | 0=>List.replicate len 0
 | a+1=>stA l A (rowA l A len a) a
def pw (l:List Int):Nat→List Int
 | 0=>[1]
 | i+1=>rowA l (pw l i) (1+2*i+2) (1+2*i)
def whl (A:List Int) (n:Nat):Nat→Int
 | 0=>0
 | k+1=>bits .or .u64 (IntKind.u64.wrap (whl A n k*4294967296)) (A[n-1-k]?.getD 0)
def lowHigh (x:Int):List Int:=[bits .and .u64 x 4294967295,x / 4294967296]
def lessF (x:Int) (n:Nat) (p:Int):Bool:=decide (whl (pw (lowHigh x) n) (1+2*n) (1+n)<p)
def ptF (p:Int) (n:Nat):Nat→Int
 | 0=>0
 | k+1=>if lessF (bits .or .u64 (ptF p n k) (IntKind.u64.wrap (2 ^ (36-k)))) n p then bits .or .u64 (ptF p n k) (IntKind.u64.wrap (2 ^ (36-k))) else ptF p n k
def u64s (l:List Int):List Value:=l.map (Value.int .u64)
def noDiv (x:Int) (l:List Int):Bool:=l.all fun y=>x % y != 0
def pl:Nat→List Int
 | 0=>[]
 | k+1=>if noDiv (2+k) (pl k) then pl k++[2+(k:Int)] else pl k

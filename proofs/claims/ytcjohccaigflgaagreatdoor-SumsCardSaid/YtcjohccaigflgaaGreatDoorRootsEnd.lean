import Derived.Test.YtcjohccaigflgaaGreatDoorRoots
import Derived.Test.YtcjohccaigflgaaGreatDoorRootVals0
import Derived.Test.YtcjohccaigflgaaGreatDoorRootVals1
import Derived.Test.YtcjohccaigflgaaGreatDoorSum
namespace Go.Proofs.YtcjohccaigflgaaGreatDoor
open Go.RowKit
theorem pl_eq : pl 310 = [2, 3, 5, 7, 11, 13, 17, 19, 23, 29, 31, 37, 41, 43, 47, 53, 59, 61, 67, 71, 73, 79, 83, 89, 97, 101, 103, 107, 109, 113, 127, 131, 137, 139, 149, 151, 157, 163, 167, 173, 179, 181, 191, 193, 197, 199, 211, 223, 227, 229, 233, 239, 241, 251, 257, 263, 269, 271, 277, 281, 283, 293, 307, 311] := by decide +kernel
theorem P0 : P 0 = 2 := by rw [P, pl_eq]; rfl
theorem P1 : P 1 = 3 := by rw [P, pl_eq]; rfl
theorem P2 : P 2 = 5 := by rw [P, pl_eq]; rfl
theorem P3 : P 3 = 7 := by rw [P, pl_eq]; rfl
theorem P4 : P 4 = 11 := by rw [P, pl_eq]; rfl
theorem P5 : P 5 = 13 := by rw [P, pl_eq]; rfl
theorem P6 : P 6 = 17 := by rw [P, pl_eq]; rfl
theorem P7 : P 7 = 19 := by rw [P, pl_eq]; rfl
theorem P8 : P 8 = 23 := by rw [P, pl_eq]; rfl
theorem P9 : P 9 = 29 := by rw [P, pl_eq]; rfl
theorem P10 : P 10 = 31 := by rw [P, pl_eq]; rfl
theorem P11 : P 11 = 37 := by rw [P, pl_eq]; rfl
theorem P12 : P 12 = 41 := by rw [P, pl_eq]; rfl
theorem P13 : P 13 = 43 := by rw [P, pl_eq]; rfl
theorem P14 : P 14 = 47 := by rw [P, pl_eq]; rfl
theorem P15 : P 15 = 53 := by rw [P, pl_eq]; rfl
theorem P16 : P 16 = 59 := by rw [P, pl_eq]; rfl
theorem P17 : P 17 = 61 := by rw [P, pl_eq]; rfl
theorem P18 : P 18 = 67 := by rw [P, pl_eq]; rfl
theorem P19 : P 19 = 71 := by rw [P, pl_eq]; rfl
theorem P20 : P 20 = 73 := by rw [P, pl_eq]; rfl
theorem P21 : P 21 = 79 := by rw [P, pl_eq]; rfl
theorem P22 : P 22 = 83 := by rw [P, pl_eq]; rfl
theorem P23 : P 23 = 89 := by rw [P, pl_eq]; rfl
theorem P24 : P 24 = 97 := by rw [P, pl_eq]; rfl
theorem P25 : P 25 = 101 := by rw [P, pl_eq]; rfl
theorem P26 : P 26 = 103 := by rw [P, pl_eq]; rfl
theorem P27 : P 27 = 107 := by rw [P, pl_eq]; rfl
theorem P28 : P 28 = 109 := by rw [P, pl_eq]; rfl
theorem P29 : P 29 = 113 := by rw [P, pl_eq]; rfl
theorem P30 : P 30 = 127 := by rw [P, pl_eq]; rfl
theorem P31 : P 31 = 131 := by rw [P, pl_eq]; rfl
theorem P32 : P 32 = 137 := by rw [P, pl_eq]; rfl
theorem P33 : P 33 = 139 := by rw [P, pl_eq]; rfl
theorem P34 : P 34 = 149 := by rw [P, pl_eq]; rfl
theorem P35 : P 35 = 151 := by rw [P, pl_eq]; rfl
theorem P36 : P 36 = 157 := by rw [P, pl_eq]; rfl
theorem P37 : P 37 = 163 := by rw [P, pl_eq]; rfl
theorem P38 : P 38 = 167 := by rw [P, pl_eq]; rfl
theorem P39 : P 39 = 173 := by rw [P, pl_eq]; rfl
theorem P40 : P 40 = 179 := by rw [P, pl_eq]; rfl
theorem P41 : P 41 = 181 := by rw [P, pl_eq]; rfl
theorem P42 : P 42 = 191 := by rw [P, pl_eq]; rfl
theorem P43 : P 43 = 193 := by rw [P, pl_eq]; rfl
theorem P44 : P 44 = 197 := by rw [P, pl_eq]; rfl
theorem P45 : P 45 = 199 := by rw [P, pl_eq]; rfl
theorem P46 : P 46 = 211 := by rw [P, pl_eq]; rfl
theorem P47 : P 47 = 223 := by rw [P, pl_eq]; rfl
theorem P48 : P 48 = 227 := by rw [P, pl_eq]; rfl
theorem P49 : P 49 = 229 := by rw [P, pl_eq]; rfl
theorem P50 : P 50 = 233 := by rw [P, pl_eq]; rfl
theorem P51 : P 51 = 239 := by rw [P, pl_eq]; rfl
theorem P52 : P 52 = 241 := by rw [P, pl_eq]; rfl
theorem P53 : P 53 = 251 := by rw [P, pl_eq]; rfl
theorem P54 : P 54 = 257 := by rw [P, pl_eq]; rfl
theorem P55 : P 55 = 263 := by rw [P, pl_eq]; rfl
theorem P56 : P 56 = 269 := by rw [P, pl_eq]; rfl
theorem P57 : P 57 = 271 := by rw [P, pl_eq]; rfl
theorem P58 : P 58 = 277 := by rw [P, pl_eq]; rfl
theorem P59 : P 59 = 281 := by rw [P, pl_eq]; rfl
theorem P60 : P 60 = 283 := by rw [P, pl_eq]; rfl
theorem P61 : P 61 = 293 := by rw [P, pl_eq]; rfl
theorem P62 : P 62 = 307 := by rw [P, pl_eq]; rfl
theorem P63 : P 63 = 311 := by rw [P, pl_eq]; rfl
/-- The numbers of the rounds. -/
def KK (j : Nat) : Int := [1116352408, 1899447441, 3049323471, 3921009573, 961987163, 1508970993, 2453635748, 2870763221, 3624381080, 310598401, 607225278, 1426881987, 1925078388, 2162078206, 2614888103, 3248222580, 3835390401, 4022224774, 264347078, 604807628, 770255983, 1249150122, 1555081692, 1996064986, 2554220882, 2821834349, 2952996808, 3210313671, 3336571891, 3584528711, 113926993, 338241895, 666307205, 773529912, 1294757372, 1396182291, 1695183700, 1986661051, 2177026350, 2456956037, 2730485921, 2820302411, 3259730800, 3345764771, 3516065817, 3600352804, 4094571909, 275423344, 430227734, 506948616, 659060556, 883997877, 958139571, 1322822218, 1537002063, 1747873779, 1955562222, 2024104815, 2227730452, 2361852424, 2428436474, 2756734187, 3204031479, 3329325298].getD j 0
def RV (j : Nat) : Int := if j < 8 then H0 j else KK (j - 8)
theorem rtv0 : rt 64 8 0 = .int .u32 (RV 0) := by
  unfold rt
  rw [if_pos (by decide), P0, rootH0]; rfl
theorem rtv1 : rt 64 8 1 = .int .u32 (RV 1) := by
  unfold rt
  rw [if_pos (by decide), P1, rootH1]; rfl
theorem rtv2 : rt 64 8 2 = .int .u32 (RV 2) := by
  unfold rt
  rw [if_pos (by decide), P2, rootH2]; rfl
theorem rtv3 : rt 64 8 3 = .int .u32 (RV 3) := by
  unfold rt
  rw [if_pos (by decide), P3, rootH3]; rfl
theorem rtv4 : rt 64 8 4 = .int .u32 (RV 4) := by
  unfold rt
  rw [if_pos (by decide), P4, rootH4]; rfl
theorem rtv5 : rt 64 8 5 = .int .u32 (RV 5) := by
  unfold rt
  rw [if_pos (by decide), P5, rootH5]; rfl
theorem rtv6 : rt 64 8 6 = .int .u32 (RV 6) := by
  unfold rt
  rw [if_pos (by decide), P6, rootH6]; rfl
theorem rtv7 : rt 64 8 7 = .int .u32 (RV 7) := by
  unfold rt
  rw [if_pos (by decide), P7, rootH7]; rfl
theorem rtv8 : rt 64 8 8 = .int .u32 (RV 8) := by
  unfold rt
  rw [if_neg (by decide), if_pos (by decide), show P (8 - 8) = 2 from P0, rootK0]; rfl
theorem rtv9 : rt 64 8 9 = .int .u32 (RV 9) := by
  unfold rt
  rw [if_neg (by decide), if_pos (by decide), show P (9 - 8) = 3 from P1, rootK1]; rfl
theorem rtv10 : rt 64 8 10 = .int .u32 (RV 10) := by
  unfold rt
  rw [if_neg (by decide), if_pos (by decide), show P (10 - 8) = 5 from P2, rootK2]; rfl
theorem rtv11 : rt 64 8 11 = .int .u32 (RV 11) := by
  unfold rt
  rw [if_neg (by decide), if_pos (by decide), show P (11 - 8) = 7 from P3, rootK3]; rfl
theorem rtv12 : rt 64 8 12 = .int .u32 (RV 12) := by
  unfold rt
  rw [if_neg (by decide), if_pos (by decide), show P (12 - 8) = 11 from P4, rootK4]; rfl
theorem rtv13 : rt 64 8 13 = .int .u32 (RV 13) := by
  unfold rt
  rw [if_neg (by decide), if_pos (by decide), show P (13 - 8) = 13 from P5, rootK5]; rfl
theorem rtv14 : rt 64 8 14 = .int .u32 (RV 14) := by
  unfold rt
  rw [if_neg (by decide), if_pos (by decide), show P (14 - 8) = 17 from P6, rootK6]; rfl
theorem rtv15 : rt 64 8 15 = .int .u32 (RV 15) := by
  unfold rt
  rw [if_neg (by decide), if_pos (by decide), show P (15 - 8) = 19 from P7, rootK7]; rfl
theorem rtv16 : rt 64 8 16 = .int .u32 (RV 16) := by
  unfold rt
  rw [if_neg (by decide), if_pos (by decide), show P (16 - 8) = 23 from P8, rootK8]; rfl
theorem rtv17 : rt 64 8 17 = .int .u32 (RV 17) := by
  unfold rt
  rw [if_neg (by decide), if_pos (by decide), show P (17 - 8) = 29 from P9, rootK9]; rfl
theorem rtv18 : rt 64 8 18 = .int .u32 (RV 18) := by
  unfold rt
  rw [if_neg (by decide), if_pos (by decide), show P (18 - 8) = 31 from P10, rootK10]; rfl
theorem rtv19 : rt 64 8 19 = .int .u32 (RV 19) := by
  unfold rt
  rw [if_neg (by decide), if_pos (by decide), show P (19 - 8) = 37 from P11, rootK11]; rfl
theorem rtv20 : rt 64 8 20 = .int .u32 (RV 20) := by
  unfold rt
  rw [if_neg (by decide), if_pos (by decide), show P (20 - 8) = 41 from P12, rootK12]; rfl
theorem rtv21 : rt 64 8 21 = .int .u32 (RV 21) := by
  unfold rt
  rw [if_neg (by decide), if_pos (by decide), show P (21 - 8) = 43 from P13, rootK13]; rfl
theorem rtv22 : rt 64 8 22 = .int .u32 (RV 22) := by
  unfold rt
  rw [if_neg (by decide), if_pos (by decide), show P (22 - 8) = 47 from P14, rootK14]; rfl
theorem rtv23 : rt 64 8 23 = .int .u32 (RV 23) := by
  unfold rt
  rw [if_neg (by decide), if_pos (by decide), show P (23 - 8) = 53 from P15, rootK15]; rfl
theorem rtv24 : rt 64 8 24 = .int .u32 (RV 24) := by
  unfold rt
  rw [if_neg (by decide), if_pos (by decide), show P (24 - 8) = 59 from P16, rootK16]; rfl
theorem rtv25 : rt 64 8 25 = .int .u32 (RV 25) := by
  unfold rt
  rw [if_neg (by decide), if_pos (by decide), show P (25 - 8) = 61 from P17, rootK17]; rfl
theorem rtv26 : rt 64 8 26 = .int .u32 (RV 26) := by
  unfold rt
  rw [if_neg (by decide), if_pos (by decide), show P (26 - 8) = 67 from P18, rootK18]; rfl
theorem rtv27 : rt 64 8 27 = .int .u32 (RV 27) := by
  unfold rt
  rw [if_neg (by decide), if_pos (by decide), show P (27 - 8) = 71 from P19, rootK19]; rfl
theorem rtv28 : rt 64 8 28 = .int .u32 (RV 28) := by
  unfold rt
  rw [if_neg (by decide), if_pos (by decide), show P (28 - 8) = 73 from P20, rootK20]; rfl
theorem rtv29 : rt 64 8 29 = .int .u32 (RV 29) := by
  unfold rt
  rw [if_neg (by decide), if_pos (by decide), show P (29 - 8) = 79 from P21, rootK21]; rfl
theorem rtv30 : rt 64 8 30 = .int .u32 (RV 30) := by
  unfold rt
  rw [if_neg (by decide), if_pos (by decide), show P (30 - 8) = 83 from P22, rootK22]; rfl
theorem rtv31 : rt 64 8 31 = .int .u32 (RV 31) := by
  unfold rt
  rw [if_neg (by decide), if_pos (by decide), show P (31 - 8) = 89 from P23, rootK23]; rfl
theorem rtv32 : rt 64 8 32 = .int .u32 (RV 32) := by
  unfold rt
  rw [if_neg (by decide), if_pos (by decide), show P (32 - 8) = 97 from P24, rootK24]; rfl
theorem rtv33 : rt 64 8 33 = .int .u32 (RV 33) := by
  unfold rt
  rw [if_neg (by decide), if_pos (by decide), show P (33 - 8) = 101 from P25, rootK25]; rfl
theorem rtv34 : rt 64 8 34 = .int .u32 (RV 34) := by
  unfold rt
  rw [if_neg (by decide), if_pos (by decide), show P (34 - 8) = 103 from P26, rootK26]; rfl
theorem rtv35 : rt 64 8 35 = .int .u32 (RV 35) := by
  unfold rt
  rw [if_neg (by decide), if_pos (by decide), show P (35 - 8) = 107 from P27, rootK27]; rfl
theorem rtv36 : rt 64 8 36 = .int .u32 (RV 36) := by
  unfold rt
  rw [if_neg (by decide), if_pos (by decide), show P (36 - 8) = 109 from P28, rootK28]; rfl
theorem rtv37 : rt 64 8 37 = .int .u32 (RV 37) := by
  unfold rt
  rw [if_neg (by decide), if_pos (by decide), show P (37 - 8) = 113 from P29, rootK29]; rfl
theorem rtv38 : rt 64 8 38 = .int .u32 (RV 38) := by
  unfold rt
  rw [if_neg (by decide), if_pos (by decide), show P (38 - 8) = 127 from P30, rootK30]; rfl
theorem rtv39 : rt 64 8 39 = .int .u32 (RV 39) := by
  unfold rt
  rw [if_neg (by decide), if_pos (by decide), show P (39 - 8) = 131 from P31, rootK31]; rfl
theorem rtv40 : rt 64 8 40 = .int .u32 (RV 40) := by
  unfold rt
  rw [if_neg (by decide), if_pos (by decide), show P (40 - 8) = 137 from P32, rootK32]; rfl
theorem rtv41 : rt 64 8 41 = .int .u32 (RV 41) := by
  unfold rt
  rw [if_neg (by decide), if_pos (by decide), show P (41 - 8) = 139 from P33, rootK33]; rfl
theorem rtv42 : rt 64 8 42 = .int .u32 (RV 42) := by
  unfold rt
  rw [if_neg (by decide), if_pos (by decide), show P (42 - 8) = 149 from P34, rootK34]; rfl
theorem rtv43 : rt 64 8 43 = .int .u32 (RV 43) := by
  unfold rt
  rw [if_neg (by decide), if_pos (by decide), show P (43 - 8) = 151 from P35, rootK35]; rfl
theorem rtv44 : rt 64 8 44 = .int .u32 (RV 44) := by
  unfold rt
  rw [if_neg (by decide), if_pos (by decide), show P (44 - 8) = 157 from P36, rootK36]; rfl
theorem rtv45 : rt 64 8 45 = .int .u32 (RV 45) := by
  unfold rt
  rw [if_neg (by decide), if_pos (by decide), show P (45 - 8) = 163 from P37, rootK37]; rfl
theorem rtv46 : rt 64 8 46 = .int .u32 (RV 46) := by
  unfold rt
  rw [if_neg (by decide), if_pos (by decide), show P (46 - 8) = 167 from P38, rootK38]; rfl
theorem rtv47 : rt 64 8 47 = .int .u32 (RV 47) := by
  unfold rt
  rw [if_neg (by decide), if_pos (by decide), show P (47 - 8) = 173 from P39, rootK39]; rfl
theorem rtv48 : rt 64 8 48 = .int .u32 (RV 48) := by
  unfold rt
  rw [if_neg (by decide), if_pos (by decide), show P (48 - 8) = 179 from P40, rootK40]; rfl
theorem rtv49 : rt 64 8 49 = .int .u32 (RV 49) := by
  unfold rt
  rw [if_neg (by decide), if_pos (by decide), show P (49 - 8) = 181 from P41, rootK41]; rfl
theorem rtv50 : rt 64 8 50 = .int .u32 (RV 50) := by
  unfold rt
  rw [if_neg (by decide), if_pos (by decide), show P (50 - 8) = 191 from P42, rootK42]; rfl
theorem rtv51 : rt 64 8 51 = .int .u32 (RV 51) := by
  unfold rt
  rw [if_neg (by decide), if_pos (by decide), show P (51 - 8) = 193 from P43, rootK43]; rfl
theorem rtv52 : rt 64 8 52 = .int .u32 (RV 52) := by
  unfold rt
  rw [if_neg (by decide), if_pos (by decide), show P (52 - 8) = 197 from P44, rootK44]; rfl
theorem rtv53 : rt 64 8 53 = .int .u32 (RV 53) := by
  unfold rt
  rw [if_neg (by decide), if_pos (by decide), show P (53 - 8) = 199 from P45, rootK45]; rfl
theorem rtv54 : rt 64 8 54 = .int .u32 (RV 54) := by
  unfold rt
  rw [if_neg (by decide), if_pos (by decide), show P (54 - 8) = 211 from P46, rootK46]; rfl
theorem rtv55 : rt 64 8 55 = .int .u32 (RV 55) := by
  unfold rt
  rw [if_neg (by decide), if_pos (by decide), show P (55 - 8) = 223 from P47, rootK47]; rfl
theorem rtv56 : rt 64 8 56 = .int .u32 (RV 56) := by
  unfold rt
  rw [if_neg (by decide), if_pos (by decide), show P (56 - 8) = 227 from P48, rootK48]; rfl
theorem rtv57 : rt 64 8 57 = .int .u32 (RV 57) := by
  unfold rt
  rw [if_neg (by decide), if_pos (by decide), show P (57 - 8) = 229 from P49, rootK49]; rfl
theorem rtv58 : rt 64 8 58 = .int .u32 (RV 58) := by
  unfold rt
  rw [if_neg (by decide), if_pos (by decide), show P (58 - 8) = 233 from P50, rootK50]; rfl
theorem rtv59 : rt 64 8 59 = .int .u32 (RV 59) := by
  unfold rt
  rw [if_neg (by decide), if_pos (by decide), show P (59 - 8) = 239 from P51, rootK51]; rfl
theorem rtv60 : rt 64 8 60 = .int .u32 (RV 60) := by
  unfold rt
  rw [if_neg (by decide), if_pos (by decide), show P (60 - 8) = 241 from P52, rootK52]; rfl
theorem rtv61 : rt 64 8 61 = .int .u32 (RV 61) := by
  unfold rt
  rw [if_neg (by decide), if_pos (by decide), show P (61 - 8) = 251 from P53, rootK53]; rfl
theorem rtv62 : rt 64 8 62 = .int .u32 (RV 62) := by
  unfold rt
  rw [if_neg (by decide), if_pos (by decide), show P (62 - 8) = 257 from P54, rootK54]; rfl
theorem rtv63 : rt 64 8 63 = .int .u32 (RV 63) := by
  unfold rt
  rw [if_neg (by decide), if_pos (by decide), show P (63 - 8) = 263 from P55, rootK55]; rfl
theorem rtv64 : rt 64 8 64 = .int .u32 (RV 64) := by
  unfold rt
  rw [if_neg (by decide), if_pos (by decide), show P (64 - 8) = 269 from P56, rootK56]; rfl
theorem rtv65 : rt 64 8 65 = .int .u32 (RV 65) := by
  unfold rt
  rw [if_neg (by decide), if_pos (by decide), show P (65 - 8) = 271 from P57, rootK57]; rfl
theorem rtv66 : rt 64 8 66 = .int .u32 (RV 66) := by
  unfold rt
  rw [if_neg (by decide), if_pos (by decide), show P (66 - 8) = 277 from P58, rootK58]; rfl
theorem rtv67 : rt 64 8 67 = .int .u32 (RV 67) := by
  unfold rt
  rw [if_neg (by decide), if_pos (by decide), show P (67 - 8) = 281 from P59, rootK59]; rfl
theorem rtv68 : rt 64 8 68 = .int .u32 (RV 68) := by
  unfold rt
  rw [if_neg (by decide), if_pos (by decide), show P (68 - 8) = 283 from P60, rootK60]; rfl
theorem rtv69 : rt 64 8 69 = .int .u32 (RV 69) := by
  unfold rt
  rw [if_neg (by decide), if_pos (by decide), show P (69 - 8) = 293 from P61, rootK61]; rfl
theorem rtv70 : rt 64 8 70 = .int .u32 (RV 70) := by
  unfold rt
  rw [if_neg (by decide), if_pos (by decide), show P (70 - 8) = 307 from P62, rootK62]; rfl
theorem rtv71 : rt 64 8 71 = .int .u32 (RV 71) := by
  unfold rt
  rw [if_neg (by decide), if_pos (by decide), show P (71 - 8) = 311 from P63, rootK63]; rfl
theorem rt_vals : rowOf 72 (rt 64 8) = rowOf 72 (fun j => .int .u32 (RV j)) := rowOf_congr fun j hj => by
  match j, hj with
  | 0, _ => exact rtv0
  | 1, _ => exact rtv1
  | 2, _ => exact rtv2
  | 3, _ => exact rtv3
  | 4, _ => exact rtv4
  | 5, _ => exact rtv5
  | 6, _ => exact rtv6
  | 7, _ => exact rtv7
  | 8, _ => exact rtv8
  | 9, _ => exact rtv9
  | 10, _ => exact rtv10
  | 11, _ => exact rtv11
  | 12, _ => exact rtv12
  | 13, _ => exact rtv13
  | 14, _ => exact rtv14
  | 15, _ => exact rtv15
  | 16, _ => exact rtv16
  | 17, _ => exact rtv17
  | 18, _ => exact rtv18
  | 19, _ => exact rtv19
  | 20, _ => exact rtv20
  | 21, _ => exact rtv21
  | 22, _ => exact rtv22
  | 23, _ => exact rtv23
  | 24, _ => exact rtv24
  | 25, _ => exact rtv25
  | 26, _ => exact rtv26
  | 27, _ => exact rtv27
  | 28, _ => exact rtv28
  | 29, _ => exact rtv29
  | 30, _ => exact rtv30
  | 31, _ => exact rtv31
  | 32, _ => exact rtv32
  | 33, _ => exact rtv33
  | 34, _ => exact rtv34
  | 35, _ => exact rtv35
  | 36, _ => exact rtv36
  | 37, _ => exact rtv37
  | 38, _ => exact rtv38
  | 39, _ => exact rtv39
  | 40, _ => exact rtv40
  | 41, _ => exact rtv41
  | 42, _ => exact rtv42
  | 43, _ => exact rtv43
  | 44, _ => exact rtv44
  | 45, _ => exact rtv45
  | 46, _ => exact rtv46
  | 47, _ => exact rtv47
  | 48, _ => exact rtv48
  | 49, _ => exact rtv49
  | 50, _ => exact rtv50
  | 51, _ => exact rtv51
  | 52, _ => exact rtv52
  | 53, _ => exact rtv53
  | 54, _ => exact rtv54
  | 55, _ => exact rtv55
  | 56, _ => exact rtv56
  | 57, _ => exact rtv57
  | 58, _ => exact rtv58
  | 59, _ => exact rtv59
  | 60, _ => exact rtv60
  | 61, _ => exact rtv61
  | 62, _ => exact rtv62
  | 63, _ => exact rtv63
  | 64, _ => exact rtv64
  | 65, _ => exact rtv65
  | 66, _ => exact rtv66
  | 67, _ => exact rtv67
  | 68, _ => exact rtv68
  | 69, _ => exact rtv69
  | 70, _ => exact rtv70
  | 71, _ => exact rtv71
  | n + 72, h => exact absurd h (by omega)
theorem roots_any (w : World) : Calls Tryz.prog 34 #[] w fun e w' => e = .returned (.agg (rowOf 72 fun j => .int .u32 (RV j))) ∧ Below w.heap.size w w' := by
  have h := newRoots_any w
  rw [rt_vals] at h
  exact h
theorem KK_w (j : Nat) : W32 (KK j) := by
  have h : ∀ i, i < 64 → W32 (KK i) := by
    intro i hi
    have h : ((List.range 64).all fun i => decide (0 ≤ KK i) && decide (KK i < 4294967296)) = true := by decide +kernel
    rw [List.all_eq_true] at h
    have := h i (List.mem_range.2 hi)
    simp only [Bool.and_eq_true, decide_eq_true_eq] at this
    exact this
  by_cases hj : j < 64
  · exact h j hj
  · unfold KK W32; rw [List.getD_eq_getElem?_getD, List.getElem?_eq_none (by simp; omega)]; decide
end Go.Proofs.YtcjohccaigflgaaGreatDoor

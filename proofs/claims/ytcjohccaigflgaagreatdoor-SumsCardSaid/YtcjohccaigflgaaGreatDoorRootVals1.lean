import Derived.Test.YtcjohccaigflgaaGreatDoorPart
namespace Go.Proofs.YtcjohccaigflgaaGreatDoor
theorem rootK32 : ptF 137 3 37 % 4294967296 = 666307205 := by decide +kernel
theorem rootK33 : ptF 139 3 37 % 4294967296 = 773529912 := by decide +kernel
theorem rootK34 : ptF 149 3 37 % 4294967296 = 1294757372 := by decide +kernel
theorem rootK35 : ptF 151 3 37 % 4294967296 = 1396182291 := by decide +kernel
theorem rootK36 : ptF 157 3 37 % 4294967296 = 1695183700 := by decide +kernel
theorem rootK37 : ptF 163 3 37 % 4294967296 = 1986661051 := by decide +kernel
theorem rootK38 : ptF 167 3 37 % 4294967296 = 2177026350 := by decide +kernel
theorem rootK39 : ptF 173 3 37 % 4294967296 = 2456956037 := by decide +kernel
theorem rootK40 : ptF 179 3 37 % 4294967296 = 2730485921 := by decide +kernel
theorem rootK41 : ptF 181 3 37 % 4294967296 = 2820302411 := by decide +kernel
theorem rootK42 : ptF 191 3 37 % 4294967296 = 3259730800 := by decide +kernel
theorem rootK43 : ptF 193 3 37 % 4294967296 = 3345764771 := by decide +kernel
theorem rootK44 : ptF 197 3 37 % 4294967296 = 3516065817 := by decide +kernel
theorem rootK45 : ptF 199 3 37 % 4294967296 = 3600352804 := by decide +kernel
theorem rootK46 : ptF 211 3 37 % 4294967296 = 4094571909 := by decide +kernel
theorem rootK47 : ptF 223 3 37 % 4294967296 = 275423344 := by decide +kernel
theorem rootK48 : ptF 227 3 37 % 4294967296 = 430227734 := by decide +kernel
theorem rootK49 : ptF 229 3 37 % 4294967296 = 506948616 := by decide +kernel
theorem rootK50 : ptF 233 3 37 % 4294967296 = 659060556 := by decide +kernel
theorem rootK51 : ptF 239 3 37 % 4294967296 = 883997877 := by decide +kernel
theorem rootK52 : ptF 241 3 37 % 4294967296 = 958139571 := by decide +kernel
theorem rootK53 : ptF 251 3 37 % 4294967296 = 1322822218 := by decide +kernel
theorem rootK54 : ptF 257 3 37 % 4294967296 = 1537002063 := by decide +kernel
theorem rootK55 : ptF 263 3 37 % 4294967296 = 1747873779 := by decide +kernel
theorem rootK56 : ptF 269 3 37 % 4294967296 = 1955562222 := by decide +kernel
theorem rootK57 : ptF 271 3 37 % 4294967296 = 2024104815 := by decide +kernel
theorem rootK58 : ptF 277 3 37 % 4294967296 = 2227730452 := by decide +kernel
theorem rootK59 : ptF 281 3 37 % 4294967296 = 2361852424 := by decide +kernel
theorem rootK60 : ptF 283 3 37 % 4294967296 = 2428436474 := by decide +kernel
theorem rootK61 : ptF 293 3 37 % 4294967296 = 2756734187 := by decide +kernel
theorem rootK62 : ptF 307 3 37 % 4294967296 = 3204031479 := by decide +kernel
theorem rootK63 : ptF 311 3 37 % 4294967296 = 3329325298 := by decide +kernel
end Go.Proofs.YtcjohccaigflgaaGreatDoor

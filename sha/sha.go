// Package sha: SHA-256, as FIPS 180-4 has it.
package sha

import "math/bits"

const blockSize = 64

// roundWords: the first 32 bits of the fractions of the cube roots of the first 64 primes (FIPS 180-4, 4.2.2).
var roundWords = [64]uint32{
	0x428a2f98, 0x71374491, 0xb5c0fbcf, 0xe9b5dba5, 0x3956c25b, 0x59f111f1, 0x923f82a4, 0xab1c5ed5,
	0xd807aa98, 0x12835b01, 0x243185be, 0x550c7dc3, 0x72be5d74, 0x80deb1fe, 0x9bdc06a7, 0xc19bf174,
	0xe49b69c1, 0xefbe4786, 0x0fc19dc6, 0x240ca1cc, 0x2de92c6f, 0x4a7484aa, 0x5cb0a9dc, 0x76f988da,
	0x983e5152, 0xa831c66d, 0xb00327c8, 0xbf597fc7, 0xc6e00bf3, 0xd5a79147, 0x06ca6351, 0x14292967,
	0x27b70a85, 0x2e1b2138, 0x4d2c6dfc, 0x53380d13, 0x650a7354, 0x766a0abb, 0x81c2c92e, 0x92722c85,
	0xa2bfe8a1, 0xa81a664b, 0xc24b8b70, 0xc76c51a3, 0xd192e819, 0xd6990624, 0xf40e3585, 0x106aa070,
	0x19a4c116, 0x1e376c08, 0x2748774c, 0x34b0bcb5, 0x391c0cb3, 0x4ed8aa4a, 0x5b9cca4f, 0x682e6ff3,
	0x748f82ee, 0x78a5636f, 0x84c87814, 0x8cc70208, 0x90befffa, 0xa4506ceb, 0xbef9a3f7, 0xc67178f2,
}

// Sum is the SHA-256 of b.
func Sum(b []byte) [32]byte {
	whole := len(b) - len(b)%blockSize
	state := mixAll(firstState(), b[:whole])
	state = mixAll(state, tail(b[whole:], len(b)))
	return spread(state)
}

// firstState: FIPS 180-4, 5.3.3.
func firstState() [8]uint32 {
	return [8]uint32{
		0x6a09e667, 0xbb67ae85, 0x3c6ef372, 0xa54ff53a,
		0x510e527f, 0x9b05688c, 0x1f83d9ab, 0x5be0cd19,
	}
}

// tail is memory of its own: padding in place would write into the spare room of what was handed in.
func tail(rest []byte, length int) []byte {
	t := make([]byte, 0, 2*blockSize)
	t = append(t, rest...)
	t = append(t, 0x80)
	for len(t)%blockSize != blockSize-8 {
		t = append(t, 0)
	}
	n := uint64(length) * 8
	for shift := 56; shift >= 0; shift -= 8 {
		t = append(t, byte(n>>shift))
	}
	return t
}

func mixAll(state [8]uint32, b []byte) [8]uint32 {
	for at := 0; at < len(b); at += blockSize {
		state = mix(state, schedule(b[at:at+blockSize]))
	}
	return state
}

func schedule(block []byte) [64]uint32 {
	var w [64]uint32
	for i := range 16 {
		w[i] = uint32(block[4*i])<<24 | uint32(block[4*i+1])<<16 | uint32(block[4*i+2])<<8 | uint32(block[4*i+3])
	}
	for i := 16; i < 64; i++ {
		w[i] = smallSigma1(w[i-2]) + w[i-7] + smallSigma0(w[i-15]) + w[i-16]
	}
	return w
}

func mix(state [8]uint32, w [64]uint32) [8]uint32 {
	s := state
	for i := range 64 {
		t1 := s[7] + bigSigma1(s[4]) + choose(s[4], s[5], s[6]) + roundWords[i] + w[i]
		t2 := bigSigma0(s[0]) + majority(s[0], s[1], s[2])
		s = [8]uint32{t1 + t2, s[0], s[1], s[2], s[3] + t1, s[4], s[5], s[6]}
	}
	for i := range 8 {
		s[i] += state[i]
	}
	return s
}

func spread(state [8]uint32) [32]byte {
	var out [32]byte
	for i, word := range state {
		for j := range 4 {
			out[4*i+j] = byte(word >> (24 - 8*j))
		}
	}
	return out
}

func choose(x, y, z uint32) uint32 { return x&y ^ ^x&z }

func majority(x, y, z uint32) uint32 { return x&y ^ x&z ^ y&z }

func turn(x uint32, n int) uint32 { return bits.RotateLeft32(x, -n) }

func bigSigma0(x uint32) uint32 { return turn(x, 2) ^ turn(x, 13) ^ turn(x, 22) }

func bigSigma1(x uint32) uint32 { return turn(x, 6) ^ turn(x, 11) ^ turn(x, 25) }

func smallSigma0(x uint32) uint32 { return turn(x, 7) ^ turn(x, 18) ^ x>>3 }

func smallSigma1(x uint32) uint32 { return turn(x, 17) ^ turn(x, 19) ^ x>>10 }

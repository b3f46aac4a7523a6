package skein_test

import (
	"crypto/sha256"

	"skein/api"
)

// The bytes of frames, right or wrong, made by other code than the program's.

// piece is one step of a frame's bytes: a byte of its own, or a number as a varint.
type piece struct {
	varint bool
	n      uint64
}

func single(n byte) piece   { return piece{false, uint64(n)} }
func number(n uint64) piece { return piece{true, n} }

func varint(n uint64) []byte {
	groups := 1
	for groups < 10 && n>>(7*groups) != 0 {
		groups++
	}
	return varintOf(n, groups)
}

// varintOf: a number in so many groups, needed or not.
func varintOf(n uint64, groups int) []byte {
	b := make([]byte, groups)
	for i := range b {
		b[i] = byte(n >> (7 * i) & 0x7f)
		if i < groups-1 {
			b[i] |= 0x80
		}
	}
	return b
}

func (p piece) bytes() []byte {
	if p.varint {
		return varint(p.n)
	}
	return []byte{byte(p.n)}
}

func joined(pieces []piece) []byte {
	b := []byte{}
	for _, p := range pieces {
		b = append(b, p.bytes()...)
	}
	return b
}

// checked: bytes with their check behind them.
func checked(b []byte) []byte {
	sum := sha256.Sum256(b)
	return append(append([]byte{}, b...), sum[:3]...)
}

func opPieces(o api.Op) []piece {
	p := []piece{single(byte(o.Kind)), number(uint64(o.Client)), number(uint64(o.Clock)), number(uint64(o.Stamp)), number(o.Ref)}
	if o.Kind == api.Insert {
		p = append(p, number(uint64(uint32(o.Char))))
	}
	return p
}

func framePieces(f api.Frame) []piece {
	p := []piece{single(byte(f.Kind)), number(uint64(f.Session))}
	if f.Kind >= 1 && f.Kind <= 4 {
		p = append(p, number(f.Lo), number(f.Hi))
	}
	if f.Kind == api.Ask {
		p = append(p, single(f.Digest[0]), single(f.Digest[1]), single(f.Digest[2]))
	}
	if f.Kind >= 3 && f.Kind <= 5 {
		p = append(p, single(byte(len(f.Ops))))
		for _, o := range f.Ops {
			p = append(p, opPieces(o)...)
		}
	}
	return p
}

// raw: a frame's bytes without their check.
func raw(f api.Frame) []byte { return joined(framePieces(f)) }

func insert(client, clock, stamp uint32, ref uint64, c rune) api.Op {
	return api.Op{Kind: api.Insert, Client: client, Clock: clock, Stamp: stamp, Ref: ref, Char: c}
}

func remove(client, clock, stamp uint32, ref uint64) api.Op {
	return api.Op{Kind: api.Delete, Client: client, Clock: clock, Stamp: stamp, Ref: ref}
}

func key(client, clock uint64) uint64 { return client*1048576 + clock }

// rising: so many operations of one client.
func rising(n int) []api.Op {
	var ops []api.Op
	for i := range n {
		ops = append(ops, insert(1, uint32(i+1), uint32(i+1), 0, 'a'))
	}
	return ops
}

// Package digest: a few bytes of a set of operations, by which two sets are compared.
package digest

import (
	"skein/api"
	"skein/set"
	"skein/sha"
	"skein/wire"
)

// The first byte of a text: so none of one kind is one of another kind.
const (
	textOfNone   = 0
	textOfSome   = 1
	textOfMiddle = 2
)

// Of is the digest of a set of operations.
func Of(s set.Set) api.Digest { return short(text(s)) }

func text(s set.Set) []byte {
	ahead, middle, behind, ok := s.Parts()
	if !ok {
		return []byte{textOfNone}
	}
	b := []byte{textOfSome}
	for _, d := range [...]api.Digest{Of(ahead), short(middleText(middle)), Of(behind)} {
		b = append(b, d[:]...)
	}
	return b
}

func middleText(o api.Op) []byte { return wire.AppendOp([]byte{textOfMiddle}, o) }

func short(text []byte) api.Digest {
	sum := sha.Sum(text)
	return api.Digest(sum[:len(api.Digest{})])
}

// Package digest: a few bytes of a set of operations, by which two sets are compared.
package digest

import (
	"bytes"
	"slices"

	"skein/api"
	"skein/set"
	"skein/sha"
	"skein/wire"
)

// The first byte of a text: so none of one kind is one of another kind.
const (
	textOfNone   = 0
	textOfSome   = 1
	textOfMiddle = 2
)

// Of is the digest of a set of operations.
func Of(s set.Set) api.Digest { return short(text(s)) }

// Clash finds two texts of one digest by which two sets are taken for alike; nothing, twice, if there are none.
func Clash(x set.Set, y set.Set) ([]byte, []byte) {
	if slices.Equal(x.Ops(), y.Ops()) {
		return nil, nil // all their texts are the same: none need be worked out
	}
	textX, textY := text(x), text(y)
	if short(textX) != short(textY) {
		return nil, nil
	}
	if !bytes.Equal(textX, textY) {
		return textX, textY
	}
	return clashWithin(x, y)
}

// clashWithin looks at the parts of two sets of one text that are not the same: so both have a middle.
func clashWithin(x set.Set, y set.Set) ([]byte, []byte) {
	aheadX, middleX, behindX, _ := x.Parts()
	aheadY, middleY, behindY, _ := y.Parts()
	if middleX != middleY {
		return middleText(middleX), middleText(middleY)
	}
	if textX, textY := Clash(aheadX, aheadY); textX != nil {
		return textX, textY
	}
	return Clash(behindX, behindY)
}

func text(s set.Set) []byte {
	ahead, middle, behind, ok := s.Parts()
	if !ok {
		return []byte{textOfNone}
	}
	b := []byte{textOfSome}
	for _, d := range [...]api.Digest{Of(ahead), short(middleText(middle)), Of(behind)} {
		b = append(b, d[:]...)
	}
	return b
}

func middleText(o api.Op) []byte { return wire.AppendOp([]byte{textOfMiddle}, o) }

func short(text []byte) api.Digest {
	sum := sha.Sum(text)
	return api.Digest(sum[:len(api.Digest{})])
}

package talk

import (
	"slices"

	"skein/api"
)

// span is a range of keys, from lo on and below hi.
type span struct{ lo, hi uint64 }

func whole() span { return span{0, api.MaxKey} }

// work: the ranges of which it is not known yet that both have the same in them, in the order in which they are asked for. No two of them overlap: so the whole is there alone.
type work []span

// turn is a copy of the first ranges, so many at most, which go to the end.
func (w *work) turn(most int) []span {
	count := min(most, len(*w))
	first := slices.Clone((*w)[:count])
	*w = append(slices.Delete(*w, 0, count), first...)
	return first
}

// end takes out a range in which both have the same. What has come meanwhile may be in ranges that were taken out ahead: so at last the whole is asked for, and with it alone there is an end.
func (w *work) end(at int) {
	isWhole := (*w)[at] == whole()
	*w = slices.Delete(*w, at, at+1)
	if len(*w) == 0 && !isWhole {
		*w = work{whole()}
	}
}

// split puts what is ahead of a key, it alone, and what is behind it in the place of a range that has it.
func (w *work) split(at int, key uint64) {
	s := (*w)[at]
	parts := slices.DeleteFunc([]span{{s.lo, key}, {key, key + 1}, {key + 1, s.hi}}, span.isEmpty)
	*w = slices.Replace(*w, at, at+1, parts...)
}

func (s span) isEmpty() bool { return s.lo == s.hi }

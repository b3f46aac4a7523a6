package talk

import (
	"errors"
	"slices"
	"testing"

	"skein/api"
	"skein/book"
	"skein/fault"
	"skein/wire"
)

func is(t *testing.T, w work, want ...span) {
	t.Helper()
	if !slices.Equal(w, want) {
		t.Errorf("the work is %v, want %v", w, want)
	}
}

func TestTurn(t *testing.T) {
	w := work{{0, 1}, {1, 2}, {2, 3}, {3, 4}}
	first := w.turn(3)
	is(t, first, span{0, 1}, span{1, 2}, span{2, 3})
	is(t, w, span{3, 4}, span{0, 1}, span{1, 2}, span{2, 3})
	is(t, w.turn(4), span{3, 4}, span{0, 1}, span{1, 2}, span{2, 3})
	is(t, w.turn(9), span{3, 4}, span{0, 1}, span{1, 2}, span{2, 3})
	is(t, w, span{3, 4}, span{0, 1}, span{1, 2}, span{2, 3})
	is(t, first, span{0, 1}, span{1, 2}, span{2, 3})
	var none work
	is(t, none.turn(3))
	is(t, none)
}

func TestEnd(t *testing.T) {
	w := work{{0, 1}, {1, 2}, {2, 3}}
	w.end(1)
	is(t, w, span{0, 1}, span{2, 3})
	w.end(1)
	is(t, w, span{0, 1})
	w.end(0)
	is(t, w, whole())
	w.end(0)
	is(t, w)
}

func TestSplit(t *testing.T) {
	w := work{{0, 10}, {10, 20}, {20, 30}}
	w.split(1, 15)
	is(t, w, span{0, 10}, span{10, 15}, span{15, 16}, span{16, 20}, span{20, 30})
	w.split(4, 20)
	is(t, w, span{0, 10}, span{10, 15}, span{15, 16}, span{16, 20}, span{20, 21}, span{21, 30})
	w.split(0, 9)
	is(t, w, span{0, 9}, span{9, 10}, span{10, 15}, span{15, 16}, span{16, 20}, span{20, 21}, span{21, 30})
	w.split(3, 15)
	is(t, w, span{0, 9}, span{9, 10}, span{10, 15}, span{15, 16}, span{16, 20}, span{20, 21}, span{21, 30})
}

// TestFaults: what is wrong is told by an error value that can be asked for, with the number that is answered.
func TestFaults(t *testing.T) {
	b := book.New(1)
	other := wire.Bytes(api.Frame{Kind: api.Same, Session: 2, Hi: api.MaxKey})
	talk := New(1)
	for _, c := range []struct {
		talk   Talk
		frame  []byte
		want   error
		number api.Errno
	}{
		{Talk{}, other, fault.Other, api.ErrSession},
		{talk, other, fault.Other, api.ErrSession},
		{talk, other[:2], fault.Short, api.ErrFrame},
		{Talk{}, append(slices.Clone(other), 0), fault.More, api.ErrFrame},
	} {
		sent, err := c.talk.Heard(&b, c.frame)
		if sent != nil || !errors.Is(err, c.want) || fault.Number(err) != c.number {
			t.Errorf("Heard of %x: %x, %v, want %v", c.frame, sent, err, c.want)
		}
	}
}

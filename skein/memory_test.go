package skein_test

import (
	"bytes"
	"reflect"
	"slices"
	"sync"
	"testing"

	"skein/api"
	"skein/skein"
)

// withRoom: a copy of these operations, with others in the spare room behind them.
func withRoom(ops []api.Op) []api.Op {
	room := append(slices.Clone(ops), api.Op{Kind: 77}, api.Op{Kind: 78}, api.Op{Kind: 79})
	return room[:len(ops)]
}

// wasteBytes writes into all of b, its spare room too.
func wasteBytes(b []byte) {
	b = b[:cap(b)]
	for i := range b {
		b[i] = 0xee
	}
}

func wasteOps(ops []api.Op) {
	ops = ops[:cap(ops)]
	for i := range ops {
		ops[i] = api.Op{Kind: -5, Client: 5, Clock: 5, Stamp: 5, Ref: 5, Char: 5}
	}
}

// TestPackLeaves: P2: what is handed to Pack is neither written into nor kept, and each answer is memory of its own.
func TestPackLeaves(t *testing.T) {
	for _, c := range someFrames() {
		f := c.f
		f.Ops = withRoom(c.f.Ops)
		was := slices.Clone(f.Ops[:cap(f.Ops)])
		want := checked([]byte(c.body))
		first, _ := skein.Pack(f)
		second, _ := skein.Pack(f)
		if !slices.Equal(f.Ops[:cap(f.Ops)], was) {
			t.Errorf("Pack(%+v) wrote into the operations or behind them", c.f)
		}
		wasteOps(f.Ops)
		if !bytes.Equal(first, want) {
			t.Errorf("what Pack(%+v) gave hangs on the operations still", c.f)
		}
		wasteBytes(first)
		if !bytes.Equal(second, want) {
			t.Errorf("two answers of Pack(%+v) share memory", c.f)
		}
		if third, e := skein.Pack(c.f); e != api.OK || !bytes.Equal(third, want) {
			t.Errorf("Pack(%+v) has changed: %x", c.f, third)
		}
	}
}

// TestPackLeavesWrong: P2 for a frame that is refused.
func TestPackLeavesWrong(t *testing.T) {
	f := api.Frame{Kind: api.Have, Session: 1, Hi: top}
	f.Ops = withRoom([]api.Op{rising(2)[1], rising(2)[0]})
	was := slices.Clone(f.Ops[:cap(f.Ops)])
	packRefuses(t, "turned around", f)
	if !slices.Equal(f.Ops[:cap(f.Ops)], was) {
		t.Error("Pack wrote into the operations of a wrong frame")
	}
}

// TestUnpackLeaves: P2: what is handed to Unpack is neither written into nor kept, and each answer is memory of its own.
func TestUnpackLeaves(t *testing.T) {
	for _, c := range someFrames() {
		whole := checked([]byte(c.body))
		room := append(bytes.Clone(whole), 1, 2, 3, 4, 5, 6, 7, 8)
		b := room[:len(whole)]
		was := bytes.Clone(room)
		first, _ := skein.Unpack(b)
		second, _ := skein.Unpack(b)
		if !bytes.Equal(room, was) {
			t.Errorf("Unpack(%x) wrote into the bytes or behind them", whole)
		}
		wasteBytes(b)
		if !reflect.DeepEqual(first, c.f) {
			t.Errorf("what Unpack(%x) gave hangs on the bytes still: %+v", whole, first)
		}
		wasteOps(first.Ops)
		if !reflect.DeepEqual(second, c.f) {
			t.Errorf("two answers of Unpack(%x) share memory", whole)
		}
		if third, e := skein.Unpack(whole); e != api.OK || !reflect.DeepEqual(third, c.f) {
			t.Errorf("Unpack(%x) has changed: %+v", whole, third)
		}
	}
}

// TestUnpackLeavesWrong: P2 for bytes that are refused.
func TestUnpackLeavesWrong(t *testing.T) {
	for _, c := range someFrames() {
		whole := checked([]byte(c.body))
		for i := range whole {
			room := bytes.Clone(whole)
			unpackRefuses(t, "cut short", room[:i]) // the rest of the frame is its spare room
			if !bytes.Equal(room, whole) {
				t.Errorf("Unpack of %d bytes of %x wrote into them or behind them", i, whole)
			}
		}
	}
}

// TestFramesTogether: P2: several goroutines at a time get what each would get alone.
func TestFramesTogether(t *testing.T) {
	var wait sync.WaitGroup
	cases := someFrames()
	for range 8 {
		wait.Go(func() {
			for range 50 {
				for _, c := range cases {
					takes(t, "together", c.f)
				}
			}
		})
	}
	wait.Wait()
}

package skein_test

import (
	"bytes"
	"slices"
	"testing"

	"skein/api"
	"skein/skein"
)

// wasteFrames writes into all that was sent, and into the spare room of each and of the list.
func wasteFrames(sent [][]byte) {
	for _, b := range sent {
		wasteBytes(b)
	}
	sent = sent[:cap(sent)]
	for i := range sent {
		sent[i] = []byte{0xee}
	}
}

func cloned(sent [][]byte) [][]byte {
	var all [][]byte
	for _, b := range sent {
		all = append(all, bytes.Clone(b))
	}
	return all
}

// apart: P2: no two frames of one answer share memory, their spare room neither.
func apart(t *testing.T, sent [][]byte) {
	t.Helper()
	was := cloned(sent)
	for i, b := range sent {
		wasteBytes(b)
		if !areSame(sent[i+1:], was[i+1:]) {
			t.Errorf("the frame %d of %x shares memory with another one", i, was)
		}
	}
}

// talking: a replica with 20 operations and a session with these seven ranges.
func talking(t *testing.T) (*skein.Replica, []span) {
	t.Helper()
	r := filled(t, 7, 20)
	begins(t, r, 4)
	var work []span
	at := uint64(0)
	for _, i := range []int{3, 9, 15} {
		o := r.Ops()[i]
		hears(t, r, split(4, span{at, top}, o))
		work = append(work, span{at, keyOf(o)}, span{keyOf(o), keyOf(o) + 1})
		at = keyOf(o) + 1
	}
	return r, append(work, span{at, top})
}

// TestTickLeaves: P2: what Tick hands out may be written into, and nothing else changes.
func TestTickLeaves(t *testing.T) {
	r, work := talking(t)
	like, _ := talking(t)
	for range 10 {
		sent, want := r.Tick(), like.Tick()
		if !areSame(sent, want) || len(sent) != 5 {
			t.Errorf("Tick = %x, want %x", sent, want)
		}
		apart(t, sent)
		wasteFrames(sent)
	}
	kept := r.Tick() // what comes later leaves it as it is
	was := cloned(kept)
	wasteFrames(r.Tick())
	hears(t, r, same(4, work[0]))
	if !areSame(kept, was) {
		t.Errorf("what Tick gave has changed: %x, was %x", kept, was)
	}
}

// TestHeardLeaves: P2: what is handed to Heard is neither written into nor kept, and what it hands out is memory of its own.
func TestHeardLeaves(t *testing.T) {
	_, work := talking(t)
	x := insert(30, 1, 99, 0, 'x')
	for _, f := range []api.Frame{
		ask(9, everything(), api.Digest{}), ask(9, work[3], api.Digest{}), ask(9, work[0], api.Digest{}), ask(9, span{1, 2}, plainDigest(nil)),
		give(9, x, insert(31, 2, 1, 0, 'w')), same(4, work[1]), same(4, span{1, 2}), same(5, work[1]),
		split(4, work[6], x), have(4, work[6], x), have(4, work[0]), have(4, work[2]), have(4, work[1], filled(t, 7, 4).Ops()[3]),
	} {
		r, _ := talking(t)
		like, _ := talking(t)
		for range 2 {
			whole := checked(raw(f))
			room := append(bytes.Clone(whole), 1, 2, 3, 4, 5, 6, 7, 8)
			was := bytes.Clone(room)
			sent, e := r.Heard(room[:len(whole)])
			if !bytes.Equal(room, was) {
				t.Errorf("Heard(%+v) wrote into the bytes or behind them", f)
			}
			wasteBytes(room)
			want, n := like.Heard(checked(raw(f)))
			if e != n || !areSame(sent, want) {
				t.Errorf("Heard(%+v) = %x, %d, want %x, %d", f, sent, e, want, n)
			}
			apart(t, sent)
			wasteFrames(sent)
			if !slices.Equal(r.Ops(), like.Ops()) || r.Waiting() != like.Waiting() || !areSame(r.Tick(), like.Tick()) {
				t.Errorf("behind Heard(%+v): something hangs on what was handed in or out", f)
			}
		}
	}
}

// TestHeardGivesApart: P2: of many Gives no two share memory, and each is still as it was behind others.
func TestHeardGivesApart(t *testing.T) {
	r := filled(t, 7, 120)
	begins(t, r, 4)
	first, _ := r.Heard(checked(raw(have(4, everything()))))
	second, _ := r.Heard(checked(raw(have(4, everything()))))
	if len(first) != 20 {
		t.Fatalf("%d Gives", len(first))
	}
	was := cloned(first)
	apart(t, first)
	wasteFrames(first)
	if !areSame(second, was) {
		t.Errorf("two answers share memory: %x, want %x", second, was)
	}
}

// TestTicksTogether: P2: ticks of several goroutines come one after the other: no range is asked for more than once ahead of another one.
func TestTicksTogether(t *testing.T) {
	for range 50 {
		r, work := talking(t)
		sent := make([][][]byte, 7)
		together(7, func(g int) {
			for range 3 {
				sent[g] = append(sent[g], r.Tick()...)
			}
		})
		count := map[span]int{}
		for _, b := range slices.Concat(sent...) {
			f, e := skein.Unpack(b)
			if e != api.OK || f.Kind != api.Ask {
				t.Fatalf("Tick sent %x", b)
			}
			count[span{f.Lo, f.Hi}]++
		}
		for _, s := range work {
			if count[s] != 15 { // 21 ticks of five, seven ranges
				t.Errorf("the range %v was asked for %d times", s, count[s])
			}
		}
	}
}

// TestHeardTogether: P2: of what several goroutines bring nothing is lost.
func TestHeardTogether(t *testing.T) {
	for range 50 {
		r, work := talking(t)
		together(14, func(g int) {
			if g >= 7 {
				r.Heard(checked(raw(same(4, work[g-7]))))
				return
			}
			for i := range uint32(5) {
				r.Heard(checked(raw(give(1, insert(uint32(100+g), 2*i+1, 1, 0, 'a'), insert(uint32(100+g), 2*i+2, 1, 0, 'b')))))
				r.Done()
				r.Tick()
			}
		})
		if len(r.Ops()) != 90 || r.Waiting() != 0 {
			t.Errorf("%d operations, %d wait", len(r.Ops()), r.Waiting())
		}
		asks(t, r, 4, everything())
		isDone(t, r, false)
		hears(t, r, same(4, everything()))
		isDone(t, r, true)
	}
}

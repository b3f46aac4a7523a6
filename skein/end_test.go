package skein_test

import (
	"bytes"
	"math/rand/v2"
	"slices"
	"testing"
	"unicode/utf8"

	"skein/api"
	"skein/skein"
)

// way: what is on its way to one of two replicas, and how it fares there.
type way struct {
	r                    *rand.Rand
	to                   [2][][]byte
	lost, doubled, turns int // one of so many; 0: none
}

func (w *way) happens(one int) bool { return one > 0 && w.r.IntN(one) == 0 }

func (w *way) send(to int, frames [][]byte) {
	for _, f := range frames {
		if w.happens(w.lost) {
			continue
		}
		w.to[to] = append(w.to[to], f)
		if w.happens(w.doubled) {
			w.to[to] = append(w.to[to], bytes.Clone(f))
		}
	}
}

// next: what comes next to this one; a frame that was sent later, if they are turned around.
func (w *way) next(to int) []byte {
	i := 0
	if w.happens(w.turns) {
		i = w.r.IntN(len(w.to[to]))
	}
	f := w.to[to][i]
	w.to[to] = slices.Delete(w.to[to], i, i+1)
	return f
}

// run lets the sessions of both go on until those that were begun are done; not so, if there is no end to see.
func (w *way) run(both [2]*skein.Replica, begun ...int) bool {
	for range 3000 {
		for _, i := range begun {
			w.send(1-i, both[i].Tick())
		}
		for hearings := 0; len(w.to[0])+len(w.to[1]) > 0 && hearings < 60; hearings++ {
			i := w.r.IntN(2)
			if len(w.to[i]) == 0 {
				i = 1 - i
			}
			sent, _ := both[i].Heard(w.next(i))
			w.send(1-i, sent)
		}
		if !slices.ContainsFunc(begun, func(i int) bool { return !both[i].Done() }) {
			return true
		}
	}
	return false
}

// haveSame: P13: the same operations, all that were there at the beginning among them, the same text and the same digests.
func haveSame(t *testing.T, a, b *skein.Replica, all map[uint64]api.Op) {
	t.Helper()
	if !slices.Equal(a.Ops(), b.Ops()) || a.Text() != b.Text() || a.Root(0, top) != b.Root(0, top) {
		t.Errorf("%q, %+v; %q, %+v", a.Text(), a.Ops(), b.Text(), b.Ops())
	}
	met := 0
	for _, o := range a.Ops() {
		if all[keyOf(o)] == o {
			met++
		}
	}
	if met != len(all) {
		t.Errorf("of %d operations there are %d", len(all), met)
	}
	if p, q := a.Clash(b, 0, top); len(p) != 0 || len(q) != 0 {
		t.Errorf("Clash = %x, %x", p, q)
	}
}

// write: so many operations by some who hear of each other now and then.
func write(t *testing.T, r *rand.Rand, writers []*skein.Replica, count int) {
	t.Helper()
	for range count {
		x := writers[r.IntN(len(writers))]
		size := utf8.RuneCountInString(x.Text())
		var e api.Errno
		if size > 0 && r.IntN(4) == 0 {
			_, e = x.Delete(r.IntN(size))
		} else {
			_, e = x.Insert(r.IntN(size+1), 'a'+r.Int32N(26))
		}
		if e != api.OK {
			t.Fatalf("writing: %d", e)
		}
		if r.IntN(10) == 0 {
			for _, o := range x.Ops() {
				writers[r.IntN(len(writers))].Add(o)
			}
		}
	}
}

// allOf: the operations that are there at these replicas, by their keys.
func allOf(replicas ...*skein.Replica) map[uint64]api.Op {
	all := map[uint64]api.Op{}
	for _, r := range replicas {
		for _, o := range r.Ops() {
			all[keyOf(o)] = o
		}
	}
	return all
}

// TestSessionEnds: P13: with frames lost, doubled and turned around, or none of that, the session is done in the end, whoever of the two has begun one, and both have the same then.
func TestSessionEnds(t *testing.T) {
	for seed := range uint64(120) {
		r := rand.New(rand.NewPCG(seed, 13))
		writers := []*skein.Replica{newReplica(t, 1+r.Uint32N(9)), newReplica(t, 10+r.Uint32N(9)), newReplica(t, 30), newReplica(t, 1<<20-1)}
		write(t, r, writers[:2+r.IntN(3)], []int{0, 1, 5, 30, 80, 120}[r.IntN(6)])
		a, b := writers[0], writers[1]
		w := &way{r: r}
		if seed%4 > 0 {
			w = &way{r: r, lost: []int{0, 3, 8}[r.IntN(3)], doubled: []int{0, 2, 6}[r.IntN(3)], turns: []int{0, 1, 3}[r.IntN(3)]}
		}
		begun := [][]int{{0}, {1}, {0, 1}}[r.IntN(3)]
		all := allOf(a, b)
		for _, i := range begun {
			begins(t, writers[i], uint32(7*i+1))
		}
		if !w.run([2]*skein.Replica{a, b}, begun...) {
			t.Errorf("%d: the session is not done: %d operations, %d, of %d", seed, len(a.Ops()), len(b.Ops()), len(all))
		}
		haveSame(t, a, b, all)
	}
}

// TestOneHasAll: P13: one has MaxOps operations, the other one none, or all but the first one: far more wait at times than may.
func TestOneHasAll(t *testing.T) {
	for seed := range uint64(12) {
		r := rand.New(rand.NewPCG(seed, 14))
		writer := newReplica(t, 1)
		write(t, r, []*skein.Replica{writer}, 120)
		both := [2]*skein.Replica{writer, newReplica(t, 2)}
		if seed%2 > 0 {
			for _, o := range writer.Ops()[1:] {
				both[1].Add(o)
			}
		}
		begun := int(seed / 2 % 2)
		begins(t, both[begun], 3)
		w := &way{r: r, lost: 5, doubled: 5, turns: 1}
		if !w.run(both, begun) {
			t.Errorf("%d: the session is not done: %d operations", seed, len(both[1].Ops()))
		}
		haveSame(t, both[0], both[1], allOf(writer))
		if len(both[1].Ops()) != 120 || both[1].Waiting() != 0 {
			t.Errorf("%d operations, %d wait", len(both[1].Ops()), both[1].Waiting())
		}
	}
}

// TestSessionsInTurn: P13: who writes again begins a new session, and what is still on its way from the old one does no harm.
func TestSessionsInTurn(t *testing.T) {
	r := rand.New(rand.NewPCG(1, 15))
	a, b := newReplica(t, 1), newReplica(t, 2)
	w := &way{r: r, lost: 6, doubled: 3, turns: 1}
	for session := uint32(1); session <= 20; session++ {
		write(t, r, []*skein.Replica{a, b}, 6)
		all := allOf(a, b)
		begins(t, a, session)
		if !w.run([2]*skein.Replica{a, b}, 0) {
			t.Fatalf("the session %d is not done", session)
		}
		haveSame(t, a, b, all)
	}
	if len(a.Ops()) != 120 {
		t.Errorf("%d operations", len(a.Ops()))
	}
}

// shown: P13's range: its digests are the same, its operations are not, and Clash of it shows two texts of one digest.
func shown(t *testing.T, a, b *skein.Replica) bool {
	t.Helper()
	ends := []uint64{0, top}
	for _, o := range slices.Concat(a.Ops(), b.Ops()) {
		ends = append(ends, keyOf(o), keyOf(o)+1)
	}
	found := false
	for _, lo := range ends {
		for _, hi := range ends {
			if a.Root(lo, hi) != b.Root(lo, hi) || slices.Equal(within(a.Ops(), lo, hi), within(b.Ops(), lo, hi)) {
				continue
			}
			p, q := a.Clash(b, lo, hi)
			if bytes.Equal(p, q) || short(p) != short(q) {
				t.Errorf("Clash from %d to %d = %x, %x", lo, hi, p, q)
			}
			found = true
		}
	}
	return found
}

// TestDoneTooSoon: P13: a range with one operation has the digest of none: the session is done at once, and Clash shows why.
func TestDoneTooSoon(t *testing.T) {
	a, b := newReplica(t, 426), newReplica(t, 2)
	inserts(t, a, 0, hollow().Char, hollow())
	begins(t, a, 3)
	sent := a.Tick()
	hears(t, b, ask(3, everything(), a.Root(0, top)), same(3, everything()))
	if !areSame(sent, bytesOf(ask(3, everything(), plainDigest(nil)))) {
		t.Errorf("Tick = %x", sent)
	}
	hears(t, a, same(3, everything()))
	isDone(t, a, true)
	has(t, b, "", 0, 0)
	clashes(t, a, b, everything(), textOfOne(hollow()), []byte{0})
	if !shown(t, a, b) {
		t.Error("no range shows why")
	}
}

// lower: a client whose first five operations all have a lesser rank than the hollow one, the fifth the greatest of them.
func lower() uint32 {
	for c := uint32(1); ; c++ {
		var ops []api.Op
		for clock := range uint32(5) {
			ops = append(ops, insert(c, clock+1, 1, 0, 'a'))
		}
		if middleOf(ops) == 4 && middleOf(append(ops, hollow())) == 5 {
			return c
		}
	}
}

// TestNeverDone: P13: the same operation within wholes that are not alike: each of the parts is the same, the whole is not, again and again, and Clash of a part shows why.
func TestNeverDone(t *testing.T) {
	a, b := newReplica(t, 426), filled(t, lower(), 5)
	inserts(t, a, 0, hollow().Char, hollow())
	adds(t, a, b.Ops()...)
	begins(t, a, 3)
	w := &way{r: rand.New(rand.NewPCG(1, 16))}
	if w.run([2]*skein.Replica{a, b}, 0) || len(b.Ops()) != 5 {
		t.Errorf("Done = %v, %d operations", a.Done(), len(b.Ops()))
	}
	clashes(t, a, b, everything(), nil, nil)
	clashes(t, a, b, span{key(426, 0), key(427, 0)}, textOfOne(hollow()), []byte{0})
	if !shown(t, a, b) {
		t.Error("no range shows why")
	}
}

// TestFewTicks: P13: an ordinary session comes to its end soon, if nothing is lost.
func TestFewTicks(t *testing.T) {
	a, b := filled(t, 1, 10), filled(t, 2, 10)
	all := allOf(a, b)
	begins(t, a, 1)
	for range 12 {
		for _, q := range a.Tick() {
			answers, _ := b.Heard(q)
			for _, s := range answers {
				gives, _ := a.Heard(s)
				for _, g := range gives {
					b.Heard(g)
				}
			}
		}
	}
	isDone(t, a, true)
	haveSame(t, a, b, all)
}

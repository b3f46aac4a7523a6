package skein_test

import (
	"bytes"
	"math/rand/v2"
	"slices"
	"testing"

	"skein/api"
	"skein/skein"
)

// hollow: what client 426 writes first, if it is this character: the range that has it alone has the digest of none. (Found by trying.)
func hollow() api.Op { return insert(426, 1, 1, 0, 128460) }

// alike: two operations of one key, the first of its client, whose texts are not the same, but have one digest.
func alike(client uint32, textOf func(o api.Op) []byte) (api.Op, api.Op) {
	met := map[api.Digest]api.Op{}
	for c := rune(32); ; c++ {
		o := insert(client, 1, 1, 0, c)
		d := short(textOf(o))
		if other, ok := met[d]; ok && !bytes.Equal(textOf(other), textOf(o)) {
			return other, o
		}
		met[d] = o
	}
}

// twins: alike as middles. Of a range that has one of them alone the text is the same.
func twins(client uint32) (api.Op, api.Op) { return alike(client, middleText) }

func textOfOne(o api.Op) []byte { return plainText([]api.Op{o}) }

// cousins: the ranges that have one of them alone are alike, and have other texts.
func cousins(client uint32) (api.Op, api.Op) { return alike(client, textOfOne) }

// plainClash: as the document tells it, by other code than the program's.
func plainClash(x, y []api.Op) ([]byte, []byte) {
	p, q := plainText(x), plainText(y)
	switch {
	case short(p) != short(q):
		return nil, nil
	case !bytes.Equal(p, q):
		return p, q
	case len(x) == 0:
		return nil, nil
	}
	m, n := middleOf(x), middleOf(y)
	if x[m] != y[n] {
		return middleText(x[m]), middleText(y[n])
	}
	if p, q := plainClash(x[:m], y[:n]); len(p) > 0 {
		return p, q
	}
	return plainClash(x[m+1:], y[n+1:])
}

// clashes: P12: just these texts, and the other way round, if the other one is asked; P2: nothing changes by that.
func clashes(t *testing.T, a, b *skein.Replica, s span, wantA, wantB []byte) {
	t.Helper()
	leaves(t, "Clash", b, func() {
		leaves(t, "Clash", a, func() {
			if p, q := a.Clash(b, s[0], s[1]); !bytes.Equal(p, wantA) || !bytes.Equal(q, wantB) {
				t.Errorf("Clash from %d to %d = %x, %x, want %x, %x", s[0], s[1], p, q, wantA, wantB)
			}
			if q, p := b.Clash(a, s[0], s[1]); !bytes.Equal(p, wantA) || !bytes.Equal(q, wantB) {
				t.Errorf("the other one's Clash from %d to %d = %x, %x, want %x, %x", s[0], s[1], q, p, wantB, wantA)
			}
		})
	})
}

// with: a replica that has these operations.
func with(t *testing.T, client uint32, ops ...api.Op) *skein.Replica {
	t.Helper()
	r := newReplica(t, client)
	adds(t, r, ops...)
	return r
}

// TestClashOfUnlike: P12: ranges that are not alike have nothing, though within them there are such that have something.
func TestClashOfUnlike(t *testing.T) {
	clashes(t, with(t, 1, insert(5, 1, 1, 0, 'x')), with(t, 2, insert(5, 1, 1, 0, 'y')), everything(), nil, nil)
	clashes(t, with(t, 1, insert(5, 1, 1, 0, 'x')), newReplica(t, 2), everything(), nil, nil)
	clashes(t, filled(t, 1, 9), filled(t, 2, 9), everything(), nil, nil)
	x, y := twins(5)
	a, b := with(t, 1, x, insert(6, 1, 1, 0, 'c')), with(t, 2, y)
	clashes(t, a, b, everything(), nil, nil)
	clashes(t, a, b, span{0, key(6, 1)}, middleText(x), middleText(y))
	clashes(t, a, b, span{0, key(6, 1) + 1}, nil, nil)
	adds(t, b, insert(6, 1, 1, 0, 'c'))
	clashes(t, a, b, everything(), middleText(x), middleText(y))
	clashes(t, a, b, span{key(5, 1) + 1, top}, nil, nil)
	clashes(t, a, b, span{key(5, 1), key(5, 1) + 1}, middleText(x), middleText(y))
}

// TestClashOfTheSame: P12: of the same operations nothing is found, at any range; nor of a replica with itself.
func TestClashOfTheSame(t *testing.T) {
	clashes(t, newReplica(t, 1), newReplica(t, 2), everything(), nil, nil)
	for _, r := range []*skein.Replica{newReplica(t, 1), scattered(t), busy(t), with(t, 1, hollow())} {
		like := with(t, 9)
		for range 3 {
			for _, o := range r.Ops() {
				like.Add(o)
			}
		}
		for _, lo := range bounds(r.Ops()) {
			for _, hi := range bounds(r.Ops()) {
				clashes(t, r, like, span{lo, hi}, nil, nil)
				clashes(t, r, r, span{lo, hi}, nil, nil)
			}
		}
	}
}

// TestClashOfNoRange: P12: with lo not below hi both ranges have no operation, whatever the replicas have.
func TestClashOfNoRange(t *testing.T) {
	x, y := twins(5)
	a, b := with(t, 1, x), with(t, 2, y)
	for _, lo := range bounds(a.Ops()) {
		for _, hi := range bounds(a.Ops()) {
			if lo < hi && lo <= keyOf(x) && keyOf(x) < hi {
				clashes(t, a, b, span{lo, hi}, middleText(x), middleText(y))
			} else {
				clashes(t, a, b, span{lo, hi}, nil, nil)
			}
		}
	}
}

// TestClashOfMiddles: P12: one text, but the middles are not the same operation: of one key, or of two.
func TestClashOfMiddles(t *testing.T) {
	x, y := twins(5)
	clashes(t, with(t, 1, x), with(t, 1, y), everything(), middleText(x), middleText(y))
	z := insert(10, 1, 1, 0, 62717) // hollow as well, so of the same digest
	clashes(t, with(t, 1, hollow()), with(t, 2, z), everything(), middleText(hollow()), middleText(z))
	clashes(t, with(t, 1, hollow()), with(t, 2, z), span{0, key(11, 0)}, []byte{0}, textOfOne(z))
}

// TestClashOfTexts: P12: like ranges, with texts of their own; one of them may have no operation.
func TestClashOfTexts(t *testing.T) {
	x, y := cousins(5)
	clashes(t, with(t, 1, x), with(t, 2, y), everything(), textOfOne(x), textOfOne(y))
	a, b := with(t, 1, hollow()), newReplica(t, 2)
	if a.Root(0, top) != b.Root(0, top) {
		t.Fatalf("Root of %+v = %x", hollow(), a.Root(0, top))
	}
	clashes(t, a, b, everything(), textOfOne(hollow()), []byte{0})
}

// peak: three clients one behind the other, of whose first operations the second one is the middle.
func peak() uint32 {
	for c := uint32(2); ; c++ {
		ops := []api.Op{insert(c-1, 1, 1, 0, 'a'), insert(c, 1, 1, 0, 'a'), insert(c+1, 1, 1, 0, 'a')}
		if middleOf(ops) == 1 {
			return c
		}
	}
}

// TestClashInOrder: P12: the texts, then the middles, then what is ahead of them, then what is behind.
func TestClashInOrder(t *testing.T) {
	c := peak()
	aheadX, aheadY := twins(c - 1)
	middleX, middleY := twins(c)
	behindX, behindY := twins(c + 1)
	cousinX, cousinY := cousins(c - 1)
	lastX, lastY := cousins(c + 1)
	all := func(x, y []api.Op, p, q []byte) {
		t.Helper()
		clashes(t, with(t, 50, x...), with(t, 60, y...), everything(), p, q)
	}
	all([]api.Op{aheadX, middleX, behindX}, []api.Op{aheadY, middleY, behindY}, middleText(middleX), middleText(middleY))
	all([]api.Op{aheadX, middleX, behindX}, []api.Op{aheadY, middleX, behindY}, middleText(aheadX), middleText(aheadY))
	all([]api.Op{aheadX, middleX, behindX}, []api.Op{aheadX, middleX, behindY}, middleText(behindX), middleText(behindY))
	all([]api.Op{cousinX, middleX, behindX}, []api.Op{cousinY, middleX, behindY}, textOfOne(cousinX), textOfOne(cousinY))
	all([]api.Op{cousinX, middleX, behindX}, []api.Op{cousinY, middleY, behindY}, middleText(middleX), middleText(middleY))
	all([]api.Op{aheadX, middleX, lastX}, []api.Op{aheadY, middleX, lastY}, middleText(aheadX), middleText(aheadY))
	all([]api.Op{aheadX, middleX, lastX}, []api.Op{aheadX, middleX, lastY}, textOfOne(lastX), textOfOne(lastY))
	all([]api.Op{middleX, lastX}, []api.Op{middleX, lastY}, textOfOne(lastX), textOfOne(lastY))
	all([]api.Op{aheadX, middleX}, []api.Op{aheadY, middleX}, middleText(aheadX), middleText(aheadY))
	all([]api.Op{aheadX, middleX, behindX}, []api.Op{aheadY, middleX}, nil, nil)
}

// TestClashOfWaiting: P12: what waits is in no range.
func TestClashOfWaiting(t *testing.T) {
	x, y := twins(5)
	a, b := newReplica(t, 1), newReplica(t, 2)
	waits(t, a, insert(6, 2, 1, 0, 'w'), insert(427, 2, 1, 0, 'w'))
	waits(t, b, insert(5, 2, 1, 0, 'w'))
	clashes(t, a, b, everything(), nil, nil)
	adds(t, a, x)
	clashes(t, a, b, everything(), nil, nil)
	clashes(t, a, b, span{key(6, 0), top}, nil, nil)
	adds(t, b, y) // and what waited for it
	clashes(t, a, b, everything(), nil, nil)
	clashes(t, a, b, span{0, key(5, 2)}, middleText(x), middleText(y))
}

// TestClashAsTheModel: P12: at every range of replicas that have some twins and cousins, some of the same, and some that the other one lacks.
func TestClashAsTheModel(t *testing.T) {
	pairs := [][2]api.Op{}
	for c := uint32(1); c <= 10; c++ {
		x, y := twins(c)
		if c%3 == 0 {
			x, y = cousins(c)
		}
		pairs = append(pairs, [2]api.Op{x, y})
	}
	found := map[int]int{}
	for seed := range uint64(20) {
		r := rand.New(rand.NewPCG(seed, 12))
		a, b := newReplica(t, 50), newReplica(t, 60)
		for _, p := range pairs {
			switch r.IntN(8) {
			case 0, 1:
				adds(t, a, p[0])
				adds(t, b, p[1])
			case 2:
				if r.IntN(4) == 0 {
					adds(t, a, p[0])
				}
			default:
				adds(t, a, p[0])
				adds(t, b, p[0])
			}
		}
		if r.IntN(3) == 0 {
			adds(t, []*skein.Replica{a, b}[r.IntN(2)], hollow())
		}
		x, y := a.Ops(), b.Ops()
		for _, lo := range bounds(append(x, y...)) {
			for _, hi := range bounds(append(x, y...)) {
				p, q := plainClash(within(x, lo, hi), within(y, lo, hi))
				clashes(t, a, b, span{lo, hi}, p, q)
				if len(p) > 0 {
					found[int(p[0])]++
				}
			}
		}
	}
	if found[1] < 100 || found[2] < 100 {
		t.Errorf("found, by their first byte: %v: too little was tried", found)
	}
}

// TestClashLeaves: P2: what Clash hands out may be written into, its spare room too, and the two hang neither on each other nor on what is told later.
func TestClashLeaves(t *testing.T) {
	x, y := twins(5)
	u, v := cousins(5)
	for _, c := range []struct {
		a, b         *skein.Replica
		wantA, wantB []byte
	}{
		{with(t, 1, x), with(t, 2, y), middleText(x), middleText(y)},
		{with(t, 1, u), with(t, 2, v), textOfOne(u), textOfOne(v)},
		{with(t, 1, hollow()), with(t, 2), textOfOne(hollow()), []byte{0}},
	} {
		rootA, rootB := c.a.Root(0, top), c.b.Root(0, top)
		p, q := c.a.Clash(c.b, 0, top)
		p2, q2 := c.a.Clash(c.b, 0, top)
		wasteBytes(p)
		if !bytes.Equal(q, c.wantB) {
			t.Errorf("the two texts share memory: %x", q)
		}
		wasteBytes(q)
		if !bytes.Equal(p2, c.wantA) || !bytes.Equal(q2, c.wantB) {
			t.Errorf("two answers share memory: %x, %x", p2, q2)
		}
		clashes(t, c.a, c.b, everything(), c.wantA, c.wantB)
		if c.a.Root(0, top) != rootA || c.b.Root(0, top) != rootB {
			t.Error("Root has changed")
		}
	}
}

// TestClashLeavesSessions: P2: Done and Clash, and all others that only ask, change nothing of a session.
func TestClashLeavesSessions(t *testing.T) {
	a, work := talking(t)
	b := filled(t, 2, 8)
	begins(t, b, 5)
	only := func() {
		t.Helper()
		clashes(t, a, b, everything(), nil, nil)
		clashes(t, a, a, everything(), nil, nil)
		clashes(t, a, b, work[1], nil, nil)
		isDone(t, a, false)
		a.Root(0, top)
	}
	for range 3 {
		only()
		asks(t, a, 4, work[:5]...)
		work = slices.Concat(work[5:], work[:5])
		asks(t, b, 5, everything())
	}
	hears(t, b, same(5, everything()))
	for range 3 {
		isDone(t, b, true)
		only()
	}
	asks(t, b, 5)
	asks(t, a, 4, work[:5]...)
}

// TestClashesEnd: P1, P2: of two who look at each other, and at themselves, while others write at both, none waits for good.
func TestClashesEnd(t *testing.T) {
	for range 6 {
		a, b := newReplica(t, 1), newReplica(t, 2)
		together(12, func(g int) {
			for range 30 {
				switch g % 6 {
				case 0:
					a.Clash(b, 0, top)
				case 1:
					b.Clash(a, 0, top)
				case 2:
					a.Clash(a, 0, top)
				case 3:
					b.Clash(b, 0, top)
				case 4:
					a.Insert(0, 'a')
				case 5:
					b.Insert(0, 'b')
				}
			}
		})
		if len(a.Ops()) != 60 || len(b.Ops()) != 60 {
			t.Errorf("%d, %d operations", len(a.Ops()), len(b.Ops()))
		}
	}
}

// TestClashAtOneTime: P2: both replicas are looked at as they were at one time: behind the Add at the one the two were never alike, and ahead of the Add at the other one neither.
func TestClashAtOneTime(t *testing.T) {
	x, y := twins(5)
	for range 400 {
		a, b := with(t, 1, x), newReplica(t, 2)
		together(3, func(g int) {
			if g == 0 {
				adds(t, a, insert(6, 1, 1, 0, 'c'))
				adds(t, b, y)
				return
			}
			for range 10 {
				if p, q := a.Clash(b, 0, top); len(p) != 0 || len(q) != 0 {
					t.Errorf("Clash = %x, %x", p, q)
				}
				if p, q := b.Clash(a, 0, top); len(p) != 0 || len(q) != 0 {
					t.Errorf("the other one's Clash = %x, %x", p, q)
				}
			}
		})
	}
}

package tree

import (
	"math/rand/v2"
	"slices"
	"testing"
)

// thing: its rank is far from its key; some share one.
type thing struct {
	key  uint64
	name string
}

func (t thing) Key() uint64  { return t.key }
func (t thing) Rank() uint64 { return t.key * 0x9e3779b97f4a7c15 >> 59 }

func keys(t Tree[thing]) []uint64 {
	var l []uint64
	for x := range t.All() {
		l = append(l, x.key)
	}
	return l
}

// shape tells a tree node by node.
func shape(n *node[thing]) []uint64 {
	if n == nil {
		return []uint64{0}
	}
	return slices.Concat([]uint64{n.item.key}, shape(n.ahead), shape(n.behind))
}

// isSound: the keys rise, and none is above a greater one by rank.
func isSound(t *testing.T, n *node[thing]) {
	t.Helper()
	for _, m := range []*node[thing]{n.ahead, n.behind} {
		if m == nil {
			continue
		}
		if m.isAbove(n) || (m == n.ahead) != (m.item.key < n.item.key) {
			t.Errorf("%d is under %d", m.item.key, n.item.key)
		}
		isSound(t, m)
	}
}

func TestEmpty(t *testing.T) {
	var none Tree[thing]
	if x, ok := none.Get(1); ok || x != (thing{}) || none.Len() != 0 || keys(none) != nil {
		t.Errorf("an empty tree has %v, %d, %v", x, none.Len(), keys(none))
	}
}

func TestWith(t *testing.T) {
	r := rand.New(rand.NewPCG(1, 1))
	var want []uint64
	for range 100 {
		order := r.Perm(60)
		var made Tree[thing]
		for i, k := range order {
			made = made.With(thing{uint64(k + 1), "a"})
			isSound(t, made.top)
			if made.Len() != i+1 {
				t.Fatalf("Len = %d, want %d", made.Len(), i+1)
			}
		}
		if want == nil {
			want = shape(made.top)
		}
		if !slices.Equal(shape(made.top), want) {
			t.Fatalf("the order %v makes another tree", order)
		}
		for k := range uint64(62) {
			if x, ok := made.Get(k); ok != (k >= 1 && k <= 60) || ok && x.key != k {
				t.Errorf("Get(%d) = %v, %v", k, x, ok)
			}
		}
	}
}

// TestNothingChanges: who has a tree has it still, whatever is made of it.
func TestNothingChanges(t *testing.T) {
	r := rand.New(rand.NewPCG(2, 2))
	var trees []Tree[thing]
	var shapes [][]uint64
	var now Tree[thing]
	for _, k := range r.Perm(60) {
		trees, shapes = append(trees, now), append(shapes, shape(now.top))
		now.With(thing{1000, "b"})
		now.Range(20, 40).With(thing{30, "b"})
		now = now.With(thing{uint64(k + 1), "a"})
	}
	for i, old := range trees {
		if !slices.Equal(shape(old.top), shapes[i]) || old.Len() != i {
			t.Errorf("the tree of %d has changed", i)
		}
	}
}

// TestRange: every range is a sound tree of just those items, and the tree of which it was cut is as it was.
func TestRange(t *testing.T) {
	var made Tree[thing]
	for k := range uint64(40) {
		made = made.With(thing{2*k + 3, "a"})
	}
	whole := shape(made.top)
	ends := []uint64{1 << 40, 1 << 63, 1<<64 - 1}
	for k := range uint64(86) {
		ends = append(ends, k)
	}
	for _, lo := range ends {
		for _, hi := range ends {
			part := made.Range(lo, hi)
			want := slices.DeleteFunc(keys(made), func(k uint64) bool { return k < lo || k >= hi })
			if !slices.Equal(keys(part), want) || part.Len() != len(want) {
				t.Fatalf("from %d to %d there are %v, want %v", lo, hi, keys(part), want)
			}
			if part.top != nil {
				isSound(t, part.top)
			}
			if !slices.Equal(shape(made.top), whole) {
				t.Fatalf("the range from %d to %d has changed the tree", lo, hi)
			}
		}
	}
}

// nodes of a tree, each with how deep it lies.
func nodes(n *node[thing], deep int, all map[*node[thing]]int) map[*node[thing]]int {
	if n != nil {
		all[n] = deep
		nodes(n.ahead, deep+1, all)
		nodes(n.behind, deep+1, all)
	}
	return all
}

// TestRangeShares: a range makes no more nodes anew than lie on the ways to its two ends.
func TestRangeShares(t *testing.T) {
	var made Tree[thing]
	for k := range uint64(500) {
		made = made.With(thing{k, "a"})
	}
	old := nodes(made.top, 1, map[*node[thing]]int{})
	deepest := 0
	for _, deep := range old {
		deepest = max(deepest, deep)
	}
	for lo := uint64(0); lo < 500; lo += 7 {
		for hi := lo; hi <= 500; hi += 11 {
			anew := 0
			for n := range nodes(made.Range(lo, hi).top, 1, map[*node[thing]]int{}) {
				if _, ok := old[n]; !ok {
					anew++
				}
			}
			if anew > 2*deepest {
				t.Fatalf("from %d to %d: %d nodes are anew, in a tree %d deep", lo, hi, anew, deepest)
			}
		}
	}
}

// TestParts: the middle has the greatest rank, and of several of one rank the greatest key.
func TestParts(t *testing.T) {
	var made Tree[thing]
	if a, m, b, ok := made.Parts(); ok || m != (thing{}) || a.Len() != 0 || b.Len() != 0 {
		t.Errorf("the parts of nothing: %v, %v, %v", keys(a), m, keys(b))
	}
	for k := range uint64(60) {
		made = made.With(thing{k + 1, "a"})
	}
	ties := 0
	for lo := uint64(1); lo <= 60; lo++ {
		for hi := lo + 1; hi <= 61; hi++ {
			want := thing{lo, "a"}
			for x := range made.Range(lo, hi).All() {
				if x.Rank() == want.Rank() && x != want {
					ties++
				}
				if x.Rank() >= want.Rank() {
					want = x
				}
			}
			a, m, b, ok := made.Range(lo, hi).Parts()
			if !ok || m != want {
				t.Fatalf("the middle from %d to %d: %v, want %v", lo, hi, m, want)
			}
			if !slices.Equal(keys(a), keys(made.Range(lo, m.key))) || !slices.Equal(keys(b), keys(made.Range(m.key+1, hi))) {
				t.Fatalf("ahead of %d: %v; behind it: %v", m.key, keys(a), keys(b))
			}
		}
	}
	if ties == 0 {
		t.Error("no two had one rank: too little was tried")
	}
}

func TestSameKey(t *testing.T) {
	var made Tree[thing]
	for k := range uint64(30) {
		made = made.With(thing{k + 1, "a"})
	}
	for k := range uint64(30) {
		other := made.With(thing{k + 1, "b"})
		isSound(t, other.top)
		x, _ := other.Get(k + 1)
		y, _ := made.Get(k + 1)
		if other.Len() != 30 || x.name != "b" || y.name != "a" {
			t.Errorf("another one of the key %d: %v, %v, %d", k+1, x, y, other.Len())
		}
	}
}

func TestStop(t *testing.T) {
	var made Tree[thing]
	for k := range uint64(30) {
		made = made.With(thing{k + 1, "a"})
	}
	for stop := range uint64(30) {
		var l []uint64
		for x := range made.All() {
			l = append(l, x.key)
			if x.key == stop+1 {
				break
			}
		}
		if len(l) != int(stop)+1 || !slices.IsSorted(l) {
			t.Errorf("stopped at %d: %v", stop+1, l)
		}
	}
}

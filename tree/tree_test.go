package tree

import (
	"math/rand/v2"
	"slices"
	"testing"
)

// thing: its rank is far from its key; some share one.
type thing struct {
	key  uint64
	name string
}

func (t thing) Key() uint64  { return t.key }
func (t thing) Rank() uint64 { return t.key * 0x9e3779b97f4a7c15 >> 59 }

func keys(t Tree[thing]) []uint64 {
	var l []uint64
	for x := range t.All() {
		l = append(l, x.key)
	}
	return l
}

// shape tells a tree node by node.
func shape(n *node[thing]) []uint64 {
	if n == nil {
		return []uint64{0}
	}
	return slices.Concat([]uint64{n.item.key}, shape(n.ahead), shape(n.behind))
}

// isSound: the keys rise, and none is above a greater one by rank.
func isSound(t *testing.T, n *node[thing]) {
	t.Helper()
	for _, m := range []*node[thing]{n.ahead, n.behind} {
		if m == nil {
			continue
		}
		if m.isAbove(n) || (m == n.ahead) != (m.item.key < n.item.key) {
			t.Errorf("%d is under %d", m.item.key, n.item.key)
		}
		isSound(t, m)
	}
}

func TestEmpty(t *testing.T) {
	var none Tree[thing]
	if x, ok := none.Get(1); ok || x != (thing{}) || none.Len() != 0 || keys(none) != nil {
		t.Errorf("an empty tree has %v, %d, %v", x, none.Len(), keys(none))
	}
}

func TestWith(t *testing.T) {
	r := rand.New(rand.NewPCG(1, 1))
	var want []uint64
	for range 100 {
		order := r.Perm(60)
		var made Tree[thing]
		for i, k := range order {
			made = made.With(thing{uint64(k + 1), "a"})
			isSound(t, made.top)
			if made.Len() != i+1 {
				t.Fatalf("Len = %d, want %d", made.Len(), i+1)
			}
		}
		if want == nil {
			want = shape(made.top)
		}
		if !slices.Equal(shape(made.top), want) {
			t.Fatalf("the order %v makes another tree", order)
		}
		for k := range uint64(62) {
			if x, ok := made.Get(k); ok != (k >= 1 && k <= 60) || ok && x.key != k {
				t.Errorf("Get(%d) = %v, %v", k, x, ok)
			}
		}
	}
}

// TestNothingChanges: who has a tree has it still, whatever is made of it.
func TestNothingChanges(t *testing.T) {
	r := rand.New(rand.NewPCG(2, 2))
	var trees []Tree[thing]
	var shapes [][]uint64
	var now Tree[thing]
	for _, k := range r.Perm(60) {
		trees, shapes = append(trees, now), append(shapes, shape(now.top))
		now.With(thing{1000, "b"})
		now = now.With(thing{uint64(k + 1), "a"})
	}
	for i, old := range trees {
		if !slices.Equal(shape(old.top), shapes[i]) || old.Len() != i {
			t.Errorf("the tree of %d has changed", i)
		}
	}
}

func TestSameKey(t *testing.T) {
	var made Tree[thing]
	for k := range uint64(30) {
		made = made.With(thing{k + 1, "a"})
	}
	for k := range uint64(30) {
		other := made.With(thing{k + 1, "b"})
		isSound(t, other.top)
		x, _ := other.Get(k + 1)
		y, _ := made.Get(k + 1)
		if other.Len() != 30 || x.name != "b" || y.name != "a" {
			t.Errorf("another one of the key %d: %v, %v, %d", k+1, x, y, other.Len())
		}
	}
}

func TestStop(t *testing.T) {
	var made Tree[thing]
	for k := range uint64(30) {
		made = made.With(thing{k + 1, "a"})
	}
	for stop := range uint64(30) {
		var l []uint64
		for x := range made.All() {
			l = append(l, x.key)
			if x.key == stop+1 {
				break
			}
		}
		if len(l) != int(stop)+1 || !slices.IsSorted(l) {
			t.Errorf("stopped at %d: %v", stop+1, l)
		}
	}
}

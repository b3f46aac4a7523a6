package skein_test

import (
	"cmp"
	"maps"
	"math/rand/v2"
	"slices"
	"testing"

	"skein/api"
	"skein/skein"
)

// model: a replica as the document tells it, word by word, by other code than the program's.
type model struct {
	client         uint32
	there, waiting map[uint64]api.Op
}

func newModel(client uint32) *model {
	return &model{client: client, there: map[uint64]api.Op{}, waiting: map[uint64]api.Op{}}
}

func keyOf(o api.Op) uint64 { return key(uint64(o.Client), uint64(o.Clock)) }

func (m *model) ops() []api.Op {
	var ops []api.Op
	for _, k := range slices.Sorted(maps.Keys(m.there)) {
		ops = append(ops, m.there[k])
	}
	return ops
}

// path: the Inserts from the beginning on to this one, each hanging on the one ahead of it.
func (m *model) path(o api.Op) []api.Op {
	if o.Ref == 0 {
		return []api.Op{o}
	}
	return append(m.path(m.there[o.Ref]), o)
}

// told: the Inserts by their paths: so each thing stands ahead of what hangs on it, and that ahead of the next thing.
func (m *model) told() []api.Op {
	gone := map[uint64]bool{}
	var paths [][]api.Op
	for _, o := range m.there {
		if o.Kind == api.Delete {
			gone[o.Ref] = true
		} else {
			paths = append(paths, m.path(o))
		}
	}
	slices.SortFunc(paths, func(a, b []api.Op) int {
		return slices.CompareFunc(a, b, func(x, y api.Op) int {
			return cmp.Or(cmp.Compare(y.Stamp, x.Stamp), cmp.Compare(keyOf(y), keyOf(x)))
		})
	})
	var told []api.Op
	for _, p := range paths {
		if last := p[len(p)-1]; !gone[keyOf(last)] {
			told = append(told, last)
		}
	}
	return told
}

func (m *model) text() string {
	s := ""
	for _, o := range m.told() {
		s += string(o.Char)
	}
	return s
}

func (m *model) isReady(o api.Op) bool {
	for c := uint64(1); c < uint64(o.Clock); c++ {
		if _, ok := m.there[key(uint64(o.Client), c)]; !ok {
			return false
		}
	}
	on, ok := m.there[o.Ref]
	return o.Ref == 0 || ok && on.Kind == api.Insert && on.Stamp < o.Stamp
}

func (m *model) take(o api.Op) {
	m.there[keyOf(o)] = o
	for again := true; again; {
		again = false
		for _, k := range slices.Sorted(maps.Keys(m.waiting)) {
			if len(m.there) < 120 && m.isReady(m.waiting[k]) {
				m.there[k] = m.waiting[k]
				delete(m.waiting, k)
				again = true
				break
			}
		}
	}
}

func (m *model) add(o api.Op) api.Errno {
	_, isThere := m.there[keyOf(o)]
	_, waits := m.waiting[keyOf(o)]
	switch {
	case !isRight(o):
		return api.ErrOp
	case isThere || waits:
		return api.ErrKnown
	case m.isReady(o) && len(m.there) >= 120, !m.isReady(o) && len(m.waiting) >= 12:
		return api.ErrFull
	case m.isReady(o):
		m.take(o)
		return api.OK
	}
	m.waiting[keyOf(o)] = o
	return api.ErrWait
}

func isRightKey(k uint64) bool { return k>>20 >= 1 && k>>20 < 1<<20 && k%(1<<20) >= 1 }

func isRightChar(c rune) bool {
	return c >= 32 && c <= 55295 || c >= 57344 && c <= 1114111
}

func isRight(o api.Op) bool {
	if o.Client < 1 || o.Client >= 1<<20 || o.Clock < 1 || o.Clock >= 1<<20 || o.Stamp < 1 || o.Stamp >= 1<<30 || o.Ref == keyOf(o) {
		return false
	}
	switch o.Kind {
	case api.Insert:
		return (o.Ref == 0 || isRightKey(o.Ref)) && isRightChar(o.Char)
	case api.Delete:
		return isRightKey(o.Ref) && o.Char == 0
	}
	return false
}

func (m *model) write(o api.Op) (api.Op, api.Errno) {
	clock, stamp := uint32(0), uint32(0)
	for _, x := range m.there {
		stamp = max(stamp, x.Stamp)
		if x.Client == m.client {
			clock = max(clock, x.Clock)
		}
	}
	if len(m.there) >= 120 || clock == 1<<20-1 || stamp == 1<<30-1 {
		return api.Op{}, api.ErrFull
	}
	o.Client, o.Clock, o.Stamp = m.client, clock+1, stamp+1
	delete(m.waiting, keyOf(o))
	m.take(o)
	return o, api.OK
}

func (m *model) insert(at int, c rune) (api.Op, api.Errno) {
	told := m.told()
	switch {
	case at < 0 || at > len(told):
		return api.Op{}, api.ErrPlace
	case !isRightChar(c):
		return api.Op{}, api.ErrChar
	case at == 0:
		return m.write(insert(0, 0, 0, 0, c))
	}
	return m.write(insert(0, 0, 0, keyOf(told[at-1]), c))
}

func (m *model) remove(at int) (api.Op, api.Errno) {
	told := m.told()
	if at < 0 || at >= len(told) {
		return api.Op{}, api.ErrPlace
	}
	return m.write(remove(0, 0, 0, keyOf(told[at])))
}

// drawn: an operation about those that the model has, mostly one that could be, sometimes a wrong one.
func (m *model) drawn(r *rand.Rand, clients uint32) api.Op {
	client := 1 + r.Uint32N(clients)
	clock, stamp := uint32(1), uint32(0)
	for _, o := range m.ops() {
		if o.Client == client {
			clock = o.Clock + 1
		}
		stamp = max(stamp, o.Stamp)
	}
	o := insert(client, clock, 1+r.Uint32N(stamp+3), 0, []rune{'a', 'b', 'é', '世', 0x10ffff}[r.IntN(5)])
	if r.IntN(3) == 0 {
		o.Clock += r.Uint32N(4) - r.Uint32N(2)
	}
	if r.IntN(4) > 0 {
		o.Ref = key(1+r.Uint64N(uint64(clients)), 1+r.Uint64N(uint64(clock)+1))
	}
	if told := m.told(); len(told) > 0 && r.IntN(3) > 0 {
		o.Ref = keyOf(told[r.IntN(len(told))])
		o.Stamp = stamp + 1 + r.Uint32N(2)
	}
	if r.IntN(4) == 0 {
		o.Kind, o.Char = api.Delete, 0
	}
	if r.IntN(40) == 0 {
		o.Stamp = []uint32{0, 1, 1 << 30, 1<<32 - 1}[r.IntN(4)]
	}
	if r.IntN(40) == 0 {
		o.Kind = r.IntN(5) - 1
	}
	return o
}

// isLike compares all that a replica tells with the model.
func isLike(t *testing.T, r *skein.Replica, m *model) {
	t.Helper()
	if got, want := r.Text(), m.text(); got != want {
		t.Fatalf("Text = %q, want %q", got, want)
	}
	if got, want := r.Ops(), m.ops(); !slices.Equal(got, want) {
		t.Fatalf("Ops = %+v, want %+v", got, want)
	}
	if got, want := r.Waiting(), len(m.waiting); got != want {
		t.Fatalf("Waiting = %d, want %d", got, want)
	}
}

// TestAsTheModel: P5 to P8, and P1's word that with an error nothing changes: what was done in any order, right or wrong, makes what the document says.
func TestAsTheModel(t *testing.T) {
	met := map[api.Errno]int{}
	for seed := range uint64(60) {
		r := rand.New(rand.NewPCG(seed, 5))
		clients := 2 + r.Uint32N(6)
		client := 1 + r.Uint32N(clients)
		x, m := newReplica(t, client), newModel(client)
		for range 260 {
			size := len(m.told())
			at := r.IntN(size+3) - 1
			switch r.IntN(7) {
			case 0:
				c := []rune{'x', 'y', 'z', 32, 31, 0xd800, 0xe000}[r.IntN(7)]
				got, e := x.Insert(at, c)
				want, f := m.insert(at, c)
				if got != want || e != f {
					t.Fatalf("Insert(%d, %d) = %+v, %d, want %+v, %d", at, c, got, e, want, f)
				}
				met[e]++
			case 1:
				got, e := x.Delete(at)
				want, f := m.remove(at)
				if got != want || e != f {
					t.Fatalf("Delete(%d) = %+v, %d, want %+v, %d", at, got, e, want, f)
				}
				met[e]++
			default:
				o := m.drawn(r, clients)
				e, f := x.Add(o), m.add(o)
				if e != f {
					t.Fatalf("Add(%+v) = %d, want %d", o, e, f)
				}
				met[e]++
			}
			isLike(t, x, m)
		}
	}
	for e := api.OK; e <= api.ErrFull; e++ {
		if met[e] < 20 && e != api.ErrClient {
			t.Errorf("the answer %d was met %d times: too little was tried", e, met[e])
		}
	}
}

package skein_test

import (
	"slices"
	"strings"
	"sync"
	"testing"

	"skein/api"
	"skein/skein"
)

// busy: a replica with Inserts, a Delete and some that wait.
func busy(t *testing.T) *skein.Replica {
	t.Helper()
	r := filled(t, 3, 5)
	removes(t, r, 2, remove(3, 6, 6, key(3, 3)))
	adds(t, r, insert(1, 1, 2, key(3, 1), 'b'))
	waits(t, r, insert(4, 2, 9, 0, 'c'), insert(5, 1, 9, key(4, 1), 'd'))
	return r
}

// TestOpsLeave: P2: what Ops hands out may be written into, its spare room too, and nothing else changes.
func TestOpsLeave(t *testing.T) {
	r, like := busy(t), busy(t)
	first, second := r.Ops(), r.Ops()
	if !slices.Equal(first, like.Ops()) {
		t.Fatalf("two replicas to which the same was done: %+v, %+v", first, like.Ops())
	}
	wasteOps(first)
	if !slices.Equal(second, like.Ops()) {
		t.Errorf("two answers of Ops share memory: %+v", second)
	}
	same := func() {
		t.Helper()
		if r.Text() != like.Text() || !slices.Equal(r.Ops(), like.Ops()) || r.Waiting() != like.Waiting() {
			t.Errorf("%q, %+v, %d; want %q, %+v, %d", r.Text(), r.Ops(), r.Waiting(), like.Text(), like.Ops(), like.Waiting())
		}
	}
	same()
	for _, x := range []*skein.Replica{r, like} {
		before := x.Ops()
		inserts(t, x, 1, 'x', insert(3, 7, 7, key(3, 1), 'x'))
		adds(t, x, insert(4, 1, 1, 0, 'y'))
		if x == r {
			wasteOps(before)
		}
	}
	same()
	for _, o := range []api.Op{insert(4, 2, 9, 0, 'c'), insert(5, 1, 9, key(4, 1), 'd'), insert(6, 1, 9, 0, 'e')} {
		if e, f := r.Add(o), like.Add(o); e != f {
			t.Errorf("Add(%+v) = %d, want %d", o, e, f)
		}
	}
	same()
}

// TestOpsStay: P2: what came out earlier is not changed by what is done later.
func TestOpsStay(t *testing.T) {
	r := newReplica(t, 1)
	var came [][]api.Op
	for i := range 60 {
		inserts(t, r, 0, 'a', insert(1, uint32(i+1), uint32(i+1), 0, 'a'))
		came = append(came, r.Ops())
	}
	for i, ops := range came {
		if len(ops) != i+1 || ops[i] != insert(1, uint32(i+1), uint32(i+1), 0, 'a') {
			t.Errorf("what Ops gave behind the Insert %d has changed: %+v", i, ops)
		}
	}
}

// TestAskingLeaves: P2: Text, Ops, Waiting and Root change nothing.
func TestAskingLeaves(t *testing.T) {
	r, like := busy(t), busy(t)
	for range 3 {
		r.Text()
		r.Ops()
		r.Waiting()
		r.Root(0, top)
	}
	inserts(t, r, 0, 'x', insert(3, 7, 7, 0, 'x'))
	inserts(t, like, 0, 'x', insert(3, 7, 7, 0, 'x'))
	if r.Text() != like.Text() || !slices.Equal(r.Ops(), like.Ops()) || r.Waiting() != like.Waiting() {
		t.Errorf("%q, %+v; want %q, %+v", r.Text(), r.Ops(), like.Text(), like.Ops())
	}
}

// TestWritersTogether: P2: what several goroutines write at one replica comes one after the other: no clock twice, none left out, and what was asked meanwhile is what there was at some time.
func TestWritersTogether(t *testing.T) {
	for range 20 {
		r := newReplica(t, 7)
		done := make([][]api.Op, 8)
		together(16, func(g int) {
			for range 12 {
				if g%2 == 0 {
					o, e := r.Insert(0, rune('a'+g))
					if e != api.OK {
						t.Errorf("Insert(0) = %d", e)
					}
					done[g/2] = append(done[g/2], o)
					continue
				}
				for i, o := range r.Ops() {
					if o.Clock != uint32(i+1) || o.Stamp != o.Clock {
						t.Errorf("the operation %d of one who asks: %+v", i, o)
					}
				}
				if s := r.Text(); len(s) > 96 || r.Waiting() != 0 {
					t.Errorf("Text = %q, %d wait", s, r.Waiting())
				}
			}
		})
		all := slices.Concat(done...)
		slices.SortFunc(all, func(a, b api.Op) int { return int(a.Clock) - int(b.Clock) })
		if !slices.Equal(r.Ops(), all) {
			t.Fatalf("Ops = %+v, want what was answered: %+v", r.Ops(), all)
		}
		again := newReplica(t, 8)
		adds(t, again, all...)
		if again.Text() != r.Text() || len(all) != 96 {
			t.Fatalf("Text = %q, want %q", r.Text(), again.Text())
		}
	}
}

// together: so many goroutines, that begin as nearly at one time as can be.
func together(count int, call func(g int)) {
	var wait sync.WaitGroup
	begin := make(chan int)
	for g := range count {
		wait.Go(func() {
			<-begin
			call(g)
		})
	}
	close(begin)
	wait.Wait()
}

// TestAddersTogether: P2: nothing that goroutines add at one time is lost; each operation, handed in by all of them, is taken once.
func TestAddersTogether(t *testing.T) {
	for range 100 {
		r := newReplica(t, 7)
		together(8, func(g int) {
			for i := range uint32(15) {
				if e := r.Add(insert(uint32(10+g), 1+i, 1+i, 0, 'a')); e != api.OK {
					t.Errorf("Add = %d", e)
				}
			}
		})
		has(t, r, strings.Repeat("a", 120), 120, 0)
		r = newReplica(t, 7)
		taken := make([]int, 8)
		together(8, func(g int) {
			for i := range uint32(40) {
				if r.Add(insert(1, 1+i, 1+i, 0, 'a')) == api.OK {
					taken[g]++
				}
			}
		})
		sum := 0
		for _, n := range taken {
			sum += n
		}
		if sum != 40 {
			t.Errorf("of 40 operations %d were taken", sum)
		}
		has(t, r, strings.Repeat("a", 40), 40, 0)
	}
}

// TestDeletersTogether: P2: no character is taken away twice, and none is left.
func TestDeletersTogether(t *testing.T) {
	for range 50 {
		r := filled(t, 7, 60)
		together(6, func(g int) {
			for range 10 {
				if _, e := r.Delete(0); e != api.OK {
					t.Errorf("Delete(0) = %d", e)
				}
			}
		})
		has(t, r, "", 120, 0)
		for i, o := range r.Ops()[60:] {
			if o != remove(7, uint32(61+i), uint32(61+i), key(7, uint64(1+i))) {
				t.Errorf("the Delete %d: %+v", i, o)
			}
		}
	}
}

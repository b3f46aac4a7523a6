package skein_test

import (
	"math"
	"math/rand/v2"
	"slices"
	"testing"
	"unicode/utf8"

	"skein/api"
	"skein/skein"
)

func newReplica(t *testing.T, client uint32) *skein.Replica {
	t.Helper()
	r, e := skein.New(client)
	if r == nil || e != api.OK {
		t.Fatalf("New(%d): a replica: %v, %d", client, r != nil, e)
	}
	return r
}

// inserts, removes: what is written, and its operation.
func inserts(t *testing.T, r *skein.Replica, at int, c rune, want api.Op) {
	t.Helper()
	if o, e := r.Insert(at, c); o != want || e != api.OK {
		t.Errorf("Insert(%d, %q) = %+v, %d, want %+v", at, c, o, e, want)
	}
}

func removes(t *testing.T, r *skein.Replica, at int, want api.Op) {
	t.Helper()
	if o, e := r.Delete(at); o != want || e != api.OK {
		t.Errorf("Delete(%d) = %+v, %d, want %+v", at, o, e, want)
	}
}

// leaves: P1: a call that is refused changes nothing.
func leaves(t *testing.T, what string, r *skein.Replica, call func()) {
	t.Helper()
	text, ops, waiting := r.Text(), r.Ops(), r.Waiting()
	call()
	if r.Text() != text || !slices.Equal(r.Ops(), ops) || r.Waiting() != waiting {
		t.Errorf("%s: something has changed", what)
	}
}

func insertRefuses(t *testing.T, r *skein.Replica, at int, c rune, want api.Errno) {
	t.Helper()
	leaves(t, "Insert", r, func() {
		if o, e := r.Insert(at, c); o != (api.Op{}) || e != want {
			t.Errorf("Insert(%d, %d) = %+v, %d, want %d", at, c, o, e, want)
		}
	})
}

func deleteRefuses(t *testing.T, r *skein.Replica, at int, want api.Errno) {
	t.Helper()
	leaves(t, "Delete", r, func() {
		if o, e := r.Delete(at); o != (api.Op{}) || e != want {
			t.Errorf("Delete(%d) = %+v, %d, want %d", at, o, e, want)
		}
	})
}

func adds(t *testing.T, r *skein.Replica, ops ...api.Op) {
	t.Helper()
	for _, o := range ops {
		if e := r.Add(o); e != api.OK {
			t.Errorf("Add(%+v) = %d", o, e)
		}
	}
}

// waits: it waits, and that is all that has changed.
func waits(t *testing.T, r *skein.Replica, ops ...api.Op) {
	t.Helper()
	for _, o := range ops {
		text, there, waiting := r.Text(), r.Ops(), r.Waiting()
		if e := r.Add(o); e != api.ErrWait {
			t.Errorf("Add(%+v) = %d, want ErrWait", o, e)
		}
		if r.Text() != text || !slices.Equal(r.Ops(), there) || r.Waiting() != waiting+1 {
			t.Errorf("Add(%+v): something else has changed, or it does not wait: %d, %d", o, waiting, r.Waiting())
		}
	}
}

func addRefuses(t *testing.T, r *skein.Replica, o api.Op, want api.Errno) {
	t.Helper()
	leaves(t, "Add", r, func() {
		if e := r.Add(o); e != want {
			t.Errorf("Add(%+v) = %d, want %d", o, e, want)
		}
	})
}

func has(t *testing.T, r *skein.Replica, text string, there int, waiting int) {
	t.Helper()
	if r.Text() != text || len(r.Ops()) != there || r.Waiting() != waiting {
		t.Errorf("%q, %d there, %d wait; want %q, %d, %d", r.Text(), len(r.Ops()), r.Waiting(), text, there, waiting)
	}
}

// filled: a replica with so many operations of its own.
func filled(t *testing.T, client uint32, count int) *skein.Replica {
	t.Helper()
	r := newReplica(t, client)
	for i := range count {
		if _, e := r.Insert(i, 'a'); e != api.OK {
			t.Fatalf("Insert %d: %d", i, e)
		}
	}
	return r
}

// TestNew: P5.
func TestNew(t *testing.T) {
	for _, c := range []uint32{1, 2, 1 << 19, 1<<20 - 2, 1<<20 - 1} {
		r := newReplica(t, c)
		has(t, r, "", 0, 0)
		inserts(t, r, 0, 'x', insert(c, 1, 1, 0, 'x'))
	}
	for _, c := range []uint32{0, 1 << 20, 1<<20 + 1, 1 << 21, 1 << 31, 1<<32 - 1} {
		if r, e := skein.New(c); r != nil || e != api.ErrClient {
			t.Errorf("New(%d): a replica: %v, %d", c, r != nil, e)
		}
	}
	a, b := newReplica(t, 1), newReplica(t, 1)
	inserts(t, a, 0, 'x', insert(1, 1, 1, 0, 'x'))
	has(t, b, "", 0, 0)
}

// TestWritten: P6: the document's own operations, and then a Ref at each place, ahead of, among and behind what is gone.
func TestWritten(t *testing.T) {
	r := newReplica(t, 1)
	inserts(t, r, 0, 'a', insert(1, 1, 1, 0, 'a'))
	inserts(t, r, 1, 'b', insert(1, 2, 2, 1048577, 'b'))
	inserts(t, r, 1, 'd', insert(1, 3, 3, 1048577, 'd'))
	has(t, r, "adb", 3, 0)
	inserts(t, r, 3, '世', insert(1, 4, 4, key(1, 2), '世'))
	inserts(t, r, 0, 'é', insert(1, 5, 5, 0, 'é'))
	has(t, r, "éadb世", 5, 0)
	removes(t, r, 2, remove(1, 6, 6, key(1, 3)))
	has(t, r, "éab世", 6, 0)
	removes(t, r, 0, remove(1, 7, 7, key(1, 5)))
	removes(t, r, 2, remove(1, 8, 8, key(1, 4)))
	has(t, r, "ab", 8, 0)
	inserts(t, r, 1, 'x', insert(1, 9, 9, key(1, 1), 'x'))
	inserts(t, r, 3, 'y', insert(1, 10, 10, key(1, 2), 'y'))
	inserts(t, r, 0, 'z', insert(1, 11, 11, 0, 'z'))
	has(t, r, "zaxby", 11, 0)
	for range 5 {
		if _, e := r.Delete(0); e != api.OK {
			t.Errorf("Delete(0) = %d", e)
		}
	}
	has(t, r, "", 16, 0)
	inserts(t, r, 0, 'w', insert(1, 17, 17, 0, 'w'))
}

// TestDocument: the document's two who write one text.
func TestDocument(t *testing.T) {
	a, b := newReplica(t, 1), newReplica(t, 2)
	inserts(t, a, 0, 'a', insert(1, 1, 1, 0, 'a'))
	inserts(t, a, 1, 'b', insert(1, 2, 2, 1048577, 'b'))
	adds(t, b, a.Ops()...)
	inserts(t, b, 1, 'c', insert(2, 1, 3, 1048577, 'c'))
	has(t, b, "acb", 3, 0)
	inserts(t, a, 1, 'd', insert(1, 3, 3, 1048577, 'd'))
	has(t, a, "adb", 3, 0)
	adds(t, a, insert(2, 1, 3, 1048577, 'c'))
	adds(t, b, insert(1, 3, 3, 1048577, 'd'))
	has(t, a, "acdb", 4, 0)
	has(t, b, "acdb", 4, 0)
	if !slices.Equal(a.Ops(), b.Ops()) {
		t.Errorf("Ops: %+v and %+v", a.Ops(), b.Ops())
	}
}

// TestPlaces: P6: every place that there is, and those just past.
func TestPlaces(t *testing.T) {
	outside := []int{-1, -2, math.MinInt, math.MaxInt, 1 << 32, -1 << 32}
	for size := range 6 {
		for at := range size + 1 {
			r := filled(t, 3, size)
			if _, e := r.Insert(at, 'x'); e != api.OK || r.Text()[at] != 'x' || len(r.Text()) != size+1 {
				t.Errorf("Insert(%d) of %d: %d, %q", at, size, e, r.Text())
			}
		}
		r := filled(t, 3, size)
		for _, at := range append(outside, size+1, size+2) {
			insertRefuses(t, r, at, 'x', api.ErrPlace)
			insertRefuses(t, r, at, 0, api.ErrPlace)
		}
		for _, at := range append(outside, size, size+1) {
			deleteRefuses(t, r, at, api.ErrPlace)
		}
		for at := range size {
			r := filled(t, 3, size)
			removes(t, r, at, remove(3, uint32(size+1), uint32(size+1), key(3, uint64(at+1))))
			insertRefuses(t, r, size, 'x', api.ErrPlace)
			deleteRefuses(t, r, size-1, api.ErrPlace)
		}
	}
	r := filled(t, 3, 1)
	removes(t, r, 0, remove(3, 2, 2, key(3, 1)))
	deleteRefuses(t, r, 0, api.ErrPlace)
	// places are of characters, not of bytes
	r = newReplica(t, 3)
	inserts(t, r, 0, '世', insert(3, 1, 1, 0, '世'))
	insertRefuses(t, r, 2, 'x', api.ErrPlace)
	deleteRefuses(t, r, 1, api.ErrPlace)
}

// TestChars: P6: characters at their bounds, and among those that may not be.
func TestChars(t *testing.T) {
	r := newReplica(t, 1)
	want := ""
	for i, c := range []rune{32, 33, 126, 127, 128, 0x7ff, 0x800, 55295, 57344, 0xfffd, 0xffff, 0x10000, 1114110, 1114111} {
		if o, e := r.Insert(i, c); e != api.OK || o.Char != c {
			t.Errorf("Insert of %d = %+v, %d", c, o, e)
		}
		want += string(c)
	}
	if got := r.Text(); got != want || !utf8.ValidString(got) {
		t.Errorf("Text = %q, want %q", got, want)
	}
	for _, c := range []rune{math.MinInt32, -1, 0, 1, '\n', 31, 55296, 56319, 56320, 57343, 1114112, math.MaxInt32} {
		insertRefuses(t, r, 0, c, api.ErrChar)
		insertRefuses(t, r, 14, c, api.ErrChar)
		insertRefuses(t, r, 15, c, api.ErrPlace)
	}
}

// TestFull: P6 and P7: 120 operations, whoever did them.
func TestFull(t *testing.T) {
	r := filled(t, 5, 119)
	adds(t, r, insert(1, 1, 1, 0, 'x'))
	if len(r.Ops()) != 120 {
		t.Fatalf("%d operations", len(r.Ops()))
	}
	insertRefuses(t, r, 0, 'a', api.ErrFull)
	insertRefuses(t, r, 120, 'a', api.ErrFull)
	insertRefuses(t, r, 121, 'a', api.ErrPlace)
	insertRefuses(t, r, 0, 31, api.ErrChar)
	deleteRefuses(t, r, 0, api.ErrFull)
	deleteRefuses(t, r, 120, api.ErrPlace)
	addRefuses(t, r, insert(1, 2, 2, 0, 'y'), api.ErrFull)
	addRefuses(t, r, remove(2, 1, 500, key(5, 1)), api.ErrFull)
	addRefuses(t, r, insert(1, 1, 1, 0, 'x'), api.ErrKnown)
	addRefuses(t, r, insert(1, 2, 2, 0, 1), api.ErrOp)
	waits(t, r, insert(1, 3, 2, 0, 'y')) // there is room to wait still
	addRefuses(t, r, insert(1, 3, 2, 0, 'y'), api.ErrKnown)
	r = filled(t, 5, 119)
	removes(t, r, 118, remove(5, 120, 120, key(5, 119)))
	insertRefuses(t, r, 0, 'a', api.ErrFull)
	deleteRefuses(t, r, 0, api.ErrFull)
}

// TestLastStamp: P6: the stamp MaxStamp, if it is there, is the last one; if it waits, it counts for nothing.
func TestLastStamp(t *testing.T) {
	const last = 1<<30 - 1
	r := newReplica(t, 9)
	adds(t, r, insert(1, 1, last-1, 0, 'a'))
	inserts(t, r, 1, 'b', insert(9, 1, last, key(1, 1), 'b'))
	insertRefuses(t, r, 2, 'c', api.ErrFull)
	insertRefuses(t, r, 3, 'c', api.ErrPlace)
	insertRefuses(t, r, 0, 31, api.ErrChar)
	deleteRefuses(t, r, 0, api.ErrFull)
	deleteRefuses(t, r, 2, api.ErrPlace)
	adds(t, r, insert(1, 2, 1, 0, 'd')) // what others did with a lesser one may come still
	waits(t, r, insert(2, 1, last, key(9, 1), 'e'))
	has(t, r, "abd", 3, 1)
	r = newReplica(t, 9)
	waits(t, r, insert(1, 2, last, 0, 'a'))
	inserts(t, r, 0, 'b', insert(9, 1, 1, 0, 'b'))
	adds(t, r, insert(1, 1, 1, 0, 'c'))
	has(t, r, "abc", 3, 0)
	deleteRefuses(t, r, 0, api.ErrFull)
	r = newReplica(t, 9)
	waits(t, r, insert(1, 1, last, key(9, 1), 'a')) // one's own makes it ready
	inserts(t, r, 0, 'b', insert(9, 1, 1, 0, 'b'))
	has(t, r, "ba", 2, 0)
	insertRefuses(t, r, 0, 'c', api.ErrFull)
}

// TestLastClock: P7: the clock MaxClock may wait; P6: the next clock is of what is there.
func TestLastClock(t *testing.T) {
	r := newReplica(t, 9)
	waits(t, r, insert(9, 1<<20-1, 1, 0, 'a'), insert(1, 1<<20-1, 1, 0, 'a'))
	addRefuses(t, r, insert(9, 1<<20, 1, 0, 'a'), api.ErrOp)
	addRefuses(t, r, insert(1, 1<<20, 1, 0, 'a'), api.ErrOp)
	inserts(t, r, 0, 'b', insert(9, 1, 1, 0, 'b'))
	has(t, r, "b", 1, 2)
}

// TestNext: P6: the next clock is one's own, also where one's own came by Add; the next stamp is that of all that is there.
func TestNext(t *testing.T) {
	r := newReplica(t, 2)
	adds(t, r, insert(2, 1, 7, 0, 'a'), insert(2, 2, 3, 0, 'b'), insert(1, 1, 50, 0, 'c'), insert(3, 1, 4, 0, 'd'), insert(3, 2, 4, 0, 'e'), insert(3, 3, 4, 0, 'f'))
	waits(t, r, insert(4, 2, 900, 0, 'g'))
	inserts(t, r, 0, 'x', insert(2, 3, 51, 0, 'x'))
	removes(t, r, 0, remove(2, 4, 52, key(2, 3)))
	has(t, r, "cafedb", 8, 1)
}

// TestHanging: P8: what hangs on one thing: the greater stamp first, then the greater key; behind each all that hangs on it.
func TestHanging(t *testing.T) {
	r := newReplica(t, 9)
	adds(t, r, insert(1, 1, 5, 0, 'a'), insert(2, 1, 5, 0, 'b'), insert(1, 2, 5, 0, 'c'), insert(3, 1, 6, 0, 'd'), insert(4, 1, 4, 0, 'e'))
	has(t, r, "dbcae", 5, 0)
	adds(t, r, insert(5, 1, 6, key(2, 1), 'f'), insert(4, 2, 6, key(2, 1), 'g'), insert(4, 3, 7, key(2, 1), 'h'))
	has(t, r, "dbhfgcae", 8, 0)
	adds(t, r, insert(6, 1, 9, key(4, 2), 'i'), insert(6, 2, 10, key(4, 1), 'j'), insert(6, 3, 7, key(5, 1), 'k'))
	has(t, r, "dbhfkgicaej", 11, 0)
	adds(t, r, remove(7, 1, 8, key(2, 1)), remove(7, 2, 20, key(4, 1)))
	has(t, r, "dhfkgicaj", 13, 0)
	adds(t, r, remove(8, 1, 6, key(2, 1)), insert(8, 2, 8, key(2, 1), 'l')) // gone twice; and behind what is gone another one
	has(t, r, "dlhfkgicaj", 15, 0)
}

// TestKnown: P7: an operation of the same key is known, whatever it is, there or waiting; a wrong one is wrong first.
func TestKnown(t *testing.T) {
	r := newReplica(t, 9)
	adds(t, r, insert(1, 1, 1, 0, 'a'))
	waits(t, r, insert(2, 2, 5, key(1, 1), 'b'))
	for _, o := range []api.Op{
		insert(1, 1, 1, 0, 'a'), insert(1, 1, 2, 0, 'z'), remove(1, 1, 2, key(2, 2)), insert(1, 1, 1, key(7, 7), 'a'),
		insert(2, 2, 5, key(1, 1), 'b'), insert(2, 2, 5, 0, 'b'), remove(2, 2, 5, key(1, 1)),
	} {
		addRefuses(t, r, o, api.ErrKnown)
	}
	for _, o := range []api.Op{{}, insert(1, 1, 0, 0, 'a'), insert(2, 2, 5, key(2, 2), 'b'), insert(1, 1, 1, 0, 31), remove(1, 1, 1, 0), {Kind: 3, Client: 1, Clock: 1, Stamp: 1, Ref: key(1, 2)}} {
		addRefuses(t, r, o, api.ErrOp)
	}
	inserts(t, r, 0, 'c', insert(9, 1, 2, 0, 'c'))
	addRefuses(t, r, insert(9, 1, 2, 0, 'c'), api.ErrKnown)
	has(t, r, "ca", 2, 1)
}

// TestReady: P7: each thing that an operation waits for, and the one that is not enough.
func TestReady(t *testing.T) {
	r := newReplica(t, 9)
	waits(t, r, insert(1, 3, 3, 0, 'c'))
	waits(t, r, insert(1, 2, 2, key(2, 1), 'b'))
	adds(t, r, insert(1, 1, 1, 0, 'a'))
	has(t, r, "a", 1, 2) // the second one lacks its ref, the third one the second
	adds(t, r, insert(2, 1, 1, 0, 'x'))
	has(t, r, "cxba", 4, 0)
	waits(t, r, remove(3, 1, 4, key(2, 2))) // a Delete waits for its character
	adds(t, r, insert(2, 2, 3, 0, 'y'))
	has(t, r, "cxba", 6, 0)
	waits(t, r, insert(3, 3, 9, key(2, 2), 'z')) // that character is there, but a clock is not
	adds(t, r, remove(3, 2, 9, key(2, 1)))
	has(t, r, "zcba", 8, 0)
}

// TestForGood: P7: a ref that is there, but is no Insert, or has no smaller stamp; and all that comes behind such a one.
func TestForGood(t *testing.T) {
	r := newReplica(t, 9)
	adds(t, r, insert(1, 1, 5, 0, 'a'), remove(1, 2, 6, key(1, 1)), insert(1, 3, 5, 0, 'b'))
	waits(t, r,
		insert(2, 1, 9, key(1, 2), 'c'), // on a Delete
		remove(3, 1, 9, key(1, 2)),
		insert(4, 1, 5, key(1, 1), 'd'), // not older
		insert(5, 1, 4, key(1, 1), 'e'),
		remove(6, 1, 5, key(1, 3)),
		remove(7, 1, 1, key(1, 3)),
		insert(2, 2, 9, 0, 'f'), // behind one that waits for good
		insert(8, 1, 9, key(2, 2), 'g'),
	)
	adds(t, r, insert(10, 1, 6, key(1, 1), 'h'), remove(10, 2, 6, key(1, 3)))
	inserts(t, r, 1, 'i', insert(9, 1, 7, key(10, 1), 'i'))
	has(t, r, "hi", 6, 8)
	// the one that waits came first, what it names is no Insert, or too young
	r = newReplica(t, 9)
	waits(t, r, insert(2, 1, 9, key(1, 2), 'a'), insert(3, 1, 3, key(1, 1), 'b'), remove(4, 1, 2, key(1, 1)))
	adds(t, r, insert(1, 1, 3, 0, 'c'), remove(1, 2, 4, key(1, 1)))
	has(t, r, "", 2, 3)
}

// TestTwelve: P7: no more than 12 wait; those that are ready are taken still.
func TestTwelve(t *testing.T) {
	r := newReplica(t, 9)
	for i := range uint32(12) {
		waits(t, r, insert(21-i, 2, 2, 0, 'x'))
	}
	addRefuses(t, r, insert(30, 2, 2, 0, 'x'), api.ErrFull)
	addRefuses(t, r, insert(2, 1, 2, key(3, 1), 'x'), api.ErrFull)
	addRefuses(t, r, insert(20, 2, 2, 0, 'x'), api.ErrKnown)
	addRefuses(t, r, insert(30, 2, 0, 0, 'x'), api.ErrOp)
	adds(t, r, insert(30, 1, 2, 0, 'y'), insert(30, 2, 2, 0, 'z'))
	inserts(t, r, 0, 'a', insert(9, 1, 3, 0, 'a'))
	adds(t, r, insert(15, 1, 1, 0, 'b'))
	has(t, r, "azyxb", 5, 11)
	waits(t, r, insert(2, 1, 2, key(3, 1), 'x'))
	addRefuses(t, r, insert(31, 2, 2, 0, 'x'), api.ErrFull)
	// full of both kinds
	r = filled(t, 9, 120)
	for i := range uint32(12) {
		waits(t, r, insert(21-i, 2, 2, 0, 'x'))
	}
	addRefuses(t, r, insert(30, 2, 2, 0, 'x'), api.ErrFull)
	addRefuses(t, r, insert(30, 1, 2, 0, 'x'), api.ErrFull)
}

// TestForgotten: P6: what waits under a key that one then writes oneself is forgotten; what waits for that key is not.
func TestForgotten(t *testing.T) {
	r := newReplica(t, 2)
	waits(t, r, insert(2, 1, 9, key(8, 8), 'x'), insert(2, 2, 9, key(8, 8), 'y'), insert(3, 1, 9, key(2, 1), 'z'))
	inserts(t, r, 0, 'a', insert(2, 1, 1, 0, 'a'))
	has(t, r, "az", 2, 1)
	addRefuses(t, r, insert(2, 1, 9, key(8, 8), 'x'), api.ErrKnown)
	removes(t, r, 1, remove(2, 2, 10, key(3, 1)))
	has(t, r, "a", 3, 0)
	if ops := r.Ops(); ops[0] != insert(2, 1, 1, 0, 'a') || ops[1] != remove(2, 2, 10, key(3, 1)) {
		t.Errorf("Ops = %+v", ops)
	}
	// a refused one forgets nothing
	r = newReplica(t, 2)
	waits(t, r, insert(2, 1, 9, key(8, 8), 'x'))
	insertRefuses(t, r, 1, 'a', api.ErrPlace)
	insertRefuses(t, r, 0, 31, api.ErrChar)
	deleteRefuses(t, r, 0, api.ErrPlace)
	adds(t, r, insert(1, 1, 1<<30-1, 0, 'b'))
	insertRefuses(t, r, 0, 'a', api.ErrFull)
	deleteRefuses(t, r, 0, api.ErrFull)
	has(t, r, "b", 1, 1)
	// the room of the forgotten one is room again
	r = newReplica(t, 2)
	waits(t, r, insert(2, 1, 9, key(8, 8), 'x'))
	for i := range uint32(11) {
		waits(t, r, insert(20+i, 2, 2, 0, 'x'))
	}
	addRefuses(t, r, insert(40, 2, 2, 0, 'x'), api.ErrFull)
	inserts(t, r, 0, 'a', insert(2, 1, 1, 0, 'a'))
	waits(t, r, insert(40, 2, 2, 0, 'x'))
}

// TestOwnMakesReady: P7: an Insert or a Delete of one's own lets in what waits for it, and what waits for that.
func TestOwnMakesReady(t *testing.T) {
	r := newReplica(t, 2)
	waits(t, r, insert(1, 1, 5, key(2, 1), 'x'), insert(1, 2, 5, 0, 'y'), insert(2, 2, 7, key(1, 1), 'w'), insert(2, 4, 9, 0, 'z'))
	inserts(t, r, 0, 'a', insert(2, 1, 1, 0, 'a'))
	has(t, r, "yaxw", 4, 1)
	removes(t, r, 0, remove(2, 3, 8, key(1, 2)))
	has(t, r, "zaxw", 6, 0)
	inserts(t, r, 4, 'b', insert(2, 5, 10, key(2, 2), 'b'))
}

// TestRoomForSome: P7: of several that are ready those with the least keys are there, as far as there is room; each may make one of a lesser key ready.
func TestRoomForSome(t *testing.T) {
	late := []api.Op{insert(20, 1, 500, key(30, 1), 'd'), insert(12, 1, 500, key(30, 1), 'c'), insert(11, 1, 501, key(12, 1), 'b'), insert(13, 1, 500, key(30, 1), 'e')}
	for room, want := range [][]uint64{{}, {12}, {11, 12}, {11, 12, 13}, {11, 12, 13, 20}} {
		for _, own := range []bool{false, true} {
			r := filled(t, 5, 119-room)
			on := insert(30, 1, 400, 0, 'a')
			if own {
				on = insert(5, uint32(120-room), uint32(120-room), 0, 'a')
			}
			for _, o := range late {
				if o.Ref == key(30, 1) {
					o.Ref = keyOf(on)
				}
				waits(t, r, o)
			}
			if own {
				inserts(t, r, 0, 'a', on)
			} else {
				adds(t, r, on)
			}
			var got []uint64
			for _, o := range r.Ops() {
				if o.Client >= 11 && o.Client <= 20 {
					got = append(got, uint64(o.Client))
				}
			}
			if !slices.Equal(got, want) || r.Waiting() != 4-room {
				t.Errorf("room for %d (own: %v): there are %v, want %v; %d wait", room, own, got, want, r.Waiting())
			}
		}
	}
}

// TestAnyOrder: P8: all that three wrote, in any order, twice and late, makes one text; P7: nothing waits in the end.
func TestAnyOrder(t *testing.T) {
	r := rand.New(rand.NewPCG(7, 8))
	for range 40 {
		writers := []*skein.Replica{newReplica(t, 1), newReplica(t, 2), newReplica(t, 1<<20-1)}
		var all []api.Op
		for range 40 {
			x := writers[r.IntN(3)]
			size := utf8.RuneCountInString(x.Text())
			o, e := x.Insert(r.IntN(size+1), 'a'+r.Int32N(26))
			if size > 0 && r.IntN(3) == 0 && e == api.OK {
				all = append(all, o)
				o, e = x.Delete(r.IntN(size))
			}
			if e != api.OK {
				t.Fatalf("writing: %d", e)
			}
			all = append(all, o)
			if r.IntN(4) == 0 {
				for _, o := range x.Ops() {
					writers[r.IntN(3)].Add(o)
				}
			}
		}
		m := newModel(9)
		for len(m.there) < len(all) {
			for _, o := range all {
				m.add(o)
			}
		}
		for range 4 {
			x := newReplica(t, 9)
			for turn := 0; turn < 100 && len(x.Ops()) < len(all); turn++ {
				r.Shuffle(len(all), func(i, j int) { all[i], all[j] = all[j], all[i] })
				for _, o := range all {
					x.Add(o)
					x.Add(o)
				}
			}
			isLike(t, x, m)
		}
	}
}

package skein_test

import (
	"bytes"
	"slices"
	"testing"

	"skein/api"
	"skein/skein"
)

// span: a range of keys, from the first on and below the second.
type span [2]uint64

// everything: the range of all keys.
func everything() span { return span{0, top} }

func ask(session uint32, s span, d api.Digest) api.Frame {
	return api.Frame{Kind: api.Ask, Session: session, Lo: s[0], Hi: s[1], Digest: d}
}

func same(session uint32, s span) api.Frame {
	return api.Frame{Kind: api.Same, Session: session, Lo: s[0], Hi: s[1]}
}

func split(session uint32, s span, o api.Op) api.Frame {
	return api.Frame{Kind: api.Split, Session: session, Lo: s[0], Hi: s[1], Ops: []api.Op{o}}
}

func have(session uint32, s span, ops ...api.Op) api.Frame {
	return api.Frame{Kind: api.Have, Session: session, Lo: s[0], Hi: s[1], Ops: ops}
}

func give(session uint32, ops ...api.Op) api.Frame {
	return api.Frame{Kind: api.Give, Session: session, Ops: ops}
}

// bytesOf: the frames' bytes, by other code than the program's.
func bytesOf(frames ...api.Frame) [][]byte {
	var all [][]byte
	for _, f := range frames {
		all = append(all, checked(raw(f)))
	}
	return all
}

func areSame(a, b [][]byte) bool { return slices.EqualFunc(a, b, bytes.Equal) }

// hears: a frame, and just what is sent then.
func hears(t *testing.T, r *skein.Replica, f api.Frame, want ...api.Frame) {
	t.Helper()
	if sent, e := r.Heard(checked(raw(f))); e != api.OK || !areSame(sent, bytesOf(want...)) {
		t.Errorf("Heard(%+v) = %x, %d, want %x", f, sent, e, bytesOf(want...))
	}
}

// hearRefuses: P1: bytes that are refused: nothing is sent, and nothing changes.
func hearRefuses(t *testing.T, r *skein.Replica, b []byte, want api.Errno) {
	t.Helper()
	done := r.Done()
	leaves(t, "Heard", r, func() {
		if sent, e := r.Heard(b); len(sent) != 0 || e != want {
			t.Errorf("Heard(%x) = %x, %d, want %d", b, sent, e, want)
		}
	})
	if r.Done() != done {
		t.Errorf("Heard(%x): Done = %v", b, r.Done())
	}
}

// asks: P10: a tick, at which just these ranges are asked for, with the digests of what is there now.
func asks(t *testing.T, r *skein.Replica, session uint32, spans ...span) {
	t.Helper()
	var want []api.Frame
	for _, s := range spans {
		want = append(want, ask(session, s, plainDigest(within(r.Ops(), s[0], s[1]))))
	}
	if sent := r.Tick(); !areSame(sent, bytesOf(want...)) {
		t.Errorf("Tick = %x, want %x", sent, bytesOf(want...))
	}
}

// begins: a session.
func begins(t *testing.T, r *skein.Replica, session uint32) {
	t.Helper()
	if e := r.Start(session); e != api.OK || r.Done() {
		t.Fatalf("Start(%d) = %d, Done = %v", session, e, r.Done())
	}
}

func isDone(t *testing.T, r *skein.Replica, want bool) {
	t.Helper()
	if r.Done() != want {
		t.Errorf("Done = %v", r.Done())
	}
}

// TestStart: P10: the numbers that a session may have, and those that it may not.
func TestStart(t *testing.T) {
	for _, n := range []uint32{1, 2, 127, 128, 1 << 20, 1<<30 - 2, 1<<30 - 1} {
		r := newReplica(t, 7)
		begins(t, r, n)
		asks(t, r, n, everything())
		hears(t, r, same(n, everything()))
		isDone(t, r, true)
	}
	for _, n := range []uint32{0, 1 << 30, 1<<30 + 1, 1 << 31, 1<<32 - 1} {
		r := newReplica(t, 7)
		if e := r.Start(n); e != api.ErrSession {
			t.Errorf("Start(%d) = %d", n, e)
		}
		isDone(t, r, false)
		asks(t, r, n)
	}
}

// TestNoSession: P10, P11: without a session nothing is asked for and nothing is done, and no answer is taken.
func TestNoSession(t *testing.T) {
	r := filled(t, 7, 8)
	for range 2 {
		isDone(t, r, false)
		asks(t, r, 0)
		for _, f := range []api.Frame{
			same(1, everything()), same(1<<30-1, everything()), split(1, everything(), insert(1, 1, 1, 0, 'x')),
			have(1, everything()), have(1, everything(), insert(1, 1, 1, 0, 'x')),
		} {
			hearRefuses(t, r, checked(raw(f)), api.ErrSession)
		}
	}
}

// TestStartRefused: P1: who is refused a new session goes on with the old one.
func TestStartRefused(t *testing.T) {
	r := newReplica(t, 7)
	begins(t, r, 4)
	hears(t, r, split(4, everything(), insert(1, 1, 1, 0, 'x')))
	k := key(1, 1)
	for _, n := range []uint32{0, 1 << 30, 1<<32 - 1} {
		if e := r.Start(n); e != api.ErrSession {
			t.Errorf("Start(%d) = %d", n, e)
		}
		asks(t, r, 4, span{0, k}, span{k, k + 1}, span{k + 1, top})
	}
	for _, s := range []span{{0, k}, {k, k + 1}, {k + 1, top}, everything()} {
		isDone(t, r, false)
		hears(t, r, same(4, s))
	}
	isDone(t, r, true)
	if e := r.Start(0); e != api.ErrSession {
		t.Errorf("Start(0) = %d", e)
	}
	isDone(t, r, true)
}

// TestStartAgain: P10: with a second Start, of whatever number, the session ahead is no more, done or not.
func TestStartAgain(t *testing.T) {
	for _, n := range []uint32{4, 5} {
		r := newReplica(t, 7)
		begins(t, r, 4)
		hears(t, r, split(4, everything(), insert(1, 1, 1, 0, 'x')))
		begins(t, r, n)
		asks(t, r, n, everything())
		if n != 4 {
			hearRefuses(t, r, checked(raw(same(4, everything()))), api.ErrSession)
			hearRefuses(t, r, checked(raw(same(4, span{0, key(1, 1)}))), api.ErrSession)
		}
		hears(t, r, same(n, span{0, key(1, 1)})) // no range of the work any more
		asks(t, r, n, everything())
		hears(t, r, same(n, everything()))
		isDone(t, r, true)
		begins(t, r, n)
		asks(t, r, n, everything())
		hears(t, r, have(n, everything()), give(n, insert(1, 1, 1, 0, 'x')))
	}
}

// TestOtherSession: P11: answers of another session than the one that goes on, or of one that is done, are refused, though the range is one of the work.
func TestOtherSession(t *testing.T) {
	o := insert(1, 1, 1, 0, 'x')
	r := newReplica(t, 7)
	begins(t, r, 300)
	refused := func(n uint32) {
		t.Helper()
		for _, f := range []api.Frame{same(n, everything()), split(n, everything(), o), have(n, everything(), o), same(n, span{5, 9}), have(n, span{5, 9})} {
			hearRefuses(t, r, checked(raw(f)), api.ErrSession)
		}
	}
	for _, n := range []uint32{1, 299, 301, 300 + 256, 300 + 1<<16, 1<<30 - 1} {
		refused(n)
		asks(t, r, 300, everything())
	}
	hears(t, r, same(300, everything()))
	isDone(t, r, true)
	for _, n := range []uint32{299, 300, 301} {
		refused(n)
		asks(t, r, 300)
		isDone(t, r, true)
	}
}

// TestNoFrame: P11: bytes that Unpack refuses, ahead of all that may be said of their session.
func TestNoFrame(t *testing.T) {
	wrong := [][]byte{nil, {}, {1}, {2, 1, 0}, checked(nil), raw(same(4, everything()))}
	for _, f := range []api.Frame{
		ask(4, everything(), api.Digest{}), same(4, everything()), same(5, everything()), split(4, everything(), insert(1, 1, 1, 0, 'x')),
		have(4, everything(), insert(1, 1, 1, 0, 'x')), give(4, insert(1, 1, 1, 0, 'x')),
	} {
		b := checked(raw(f))
		turned := bytes.Clone(b)
		turned[len(b)-1] ^= 1
		wrong = append(wrong, b[:len(b)-1], b[1:], append(bytes.Clone(b), 0), turned)
	}
	for _, f := range []api.Frame{
		same(0, everything()), same(1<<30, everything()), same(4, span{5, 5}), same(4, span{0, top + 1}), split(4, span{0, 9}, insert(1, 1, 1, 0, 'x')),
		{Kind: api.Split, Session: 4, Hi: top}, have(4, everything(), rising(5)...), have(4, everything(), insert(1, 1, 1, 0, 31)),
		give(4), give(4, rising(7)...), give(4, rising(2)[1], rising(2)[0]), {Kind: 6, Session: 4},
	} {
		wrong = append(wrong, checked(raw(f)))
	}
	r := filled(t, 7, 8)
	for _, b := range wrong {
		hearRefuses(t, r, b, api.ErrFrame)
	}
	begins(t, r, 4)
	for _, b := range wrong {
		hearRefuses(t, r, b, api.ErrFrame)
		asks(t, r, 4, everything())
	}
	hears(t, r, same(4, everything()))
	for _, b := range wrong {
		hearRefuses(t, r, b, api.ErrFrame)
	}
}

// TestAskAnswered: P11: Same, Have or Split, of the Ask's session and range, whether there is a session, another one, one that is done, or none.
func TestAskAnswered(t *testing.T) {
	for _, before := range []func(r *skein.Replica){
		func(r *skein.Replica) {},
		func(r *skein.Replica) { begins(t, r, 9) },
		func(r *skein.Replica) { begins(t, r, 8) },
		func(r *skein.Replica) { begins(t, r, 9); hears(t, r, same(9, everything())) },
	} {
		r := filled(t, 7, 4)
		waits(t, r, insert(8, 2, 9, 0, 'w')) // what waits is nowhere in what is told
		before(r)
		done := r.Done()
		l := r.Ops()
		none, other := plainDigest(nil), api.Digest{1, 2, 3}
		hears(t, r, ask(9, span{3, 7}, none), same(9, span{3, 7}))
		hears(t, r, ask(9, span{3, 7}, other), have(9, span{3, 7}))
		hears(t, r, ask(9, everything(), plainDigest(l)), same(9, everything()))
		hears(t, r, ask(9, everything(), none), have(9, everything(), l...))
		hears(t, r, ask(9, everything(), api.Digest{}), have(9, everything(), l...))
		hears(t, r, ask(9, span{key(7, 2), key(7, 4)}, other), have(9, span{key(7, 2), key(7, 4)}, l[1], l[2]))
		hears(t, r, ask(9, span{key(7, 2), key(7, 4)}, plainDigest(l[1:3])), same(9, span{key(7, 2), key(7, 4)}))
		hears(t, r, ask(9, span{key(8, 2), key(8, 3)}, other), have(9, span{key(8, 2), key(8, 3)}))
		hears(t, r, ask(1<<30-1, span{top - 1, top}, none), same(1<<30-1, span{top - 1, top}))
		isDone(t, r, done)
	}
}

// TestAskSplit: P11: a Split is answered from MaxHave and one on, with the middle of that range alone, at every range; what is asked changes nothing.
func TestAskSplit(t *testing.T) {
	r := filled(t, 7, 12)
	adds(t, r, insert(3, 1, 1, 0, 'a'), insert(9, 1, 1, 0, 'a'))
	l := r.Ops()
	ends := bounds(l)
	count := map[int]int{}
	for _, lo := range ends {
		for _, hi := range ends {
			if lo >= hi || hi > top {
				continue
			}
			in, s := within(l, lo, hi), span{lo, hi}
			want := have(3, s, in...)
			if len(in) > 4 {
				want = split(3, s, in[middleOf(in)])
			}
			d := plainDigest(in)
			d[2] ^= 1
			hears(t, r, ask(3, s, d), want)
			d[2] ^= 1
			hears(t, r, ask(3, s, d), same(3, s))
			count[len(in)]++
		}
	}
	if count[4] == 0 || count[5] == 0 {
		t.Errorf("ranges by their lengths: %v", count)
	}
	if !slices.Equal(r.Ops(), l) {
		t.Errorf("Ops = %+v, want %+v", r.Ops(), l)
	}
}

// TestGive: P11: what is given is added in its order, with or without a session, of whatever number: what is ready is there, what is not waits, what is known, wrong for good or too much is passed over.
func TestGive(t *testing.T) {
	for _, before := range []func(r *skein.Replica){
		func(r *skein.Replica) {},
		func(r *skein.Replica) { begins(t, r, 9) },
		func(r *skein.Replica) { begins(t, r, 9); hears(t, r, same(9, everything())) },
	} {
		r := newReplica(t, 7)
		before(r)
		done := r.Done()
		inserts(t, r, 0, 'a', insert(7, 1, 1, 0, 'a'))
		hears(t, r, give(77, insert(1, 2, 3, key(7, 1), 'c'), insert(2, 1, 2, key(7, 1), 'b'), insert(7, 1, 5, 0, 'z')))
		has(t, r, "ab", 2, 1)
		hears(t, r, give(9, insert(1, 1, 2, 0, 'd'), insert(1, 2, 9, 0, 'y'), insert(2, 1, 2, key(7, 1), 'b'), insert(3, 1, 1, key(7, 1), 'x'), remove(5, 1, 9, key(2, 1))))
		has(t, r, "dac", 5, 1)
		if ops := r.Ops(); ops[1] != insert(1, 2, 3, key(7, 1), 'c') || ops[4] != insert(7, 1, 1, 0, 'a') {
			t.Errorf("Ops = %+v", ops)
		}
		isDone(t, r, done)
	}
	r := filled(t, 7, 119)
	hears(t, r, give(1, insert(1, 1, 1, 0, 'x'), insert(2, 1, 1, 0, 'y'), insert(3, 2, 1, 0, 'z')))
	if ops := r.Ops(); len(ops) != 120 || ops[0] != insert(1, 1, 1, 0, 'x') || r.Waiting() != 1 {
		t.Errorf("at MaxOps: %+v, %d wait", ops, r.Waiting())
	}
	r = newReplica(t, 7)
	for c := uint32(1); c < 15; c++ {
		hears(t, r, give(1, insert(10+c, 2, 1, 0, 'w'))) // MaxWaiting of them wait
	}
	hears(t, r, give(1, insert(40, 2, 1, 0, 'w'), insert(41, 1, 1, 0, 'x'))) // the refused one does not stop the next
	has(t, r, "x", 1, 12)
}

// TestGiveOrder: P11: in order: what comes later in a Give finds what came ahead of it, and not the other way round.
func TestGiveOrder(t *testing.T) {
	r := filled(t, 7, 118)
	hears(t, r, give(1, insert(1, 1, 500, key(3, 1), 'a'), insert(2, 1, 400, 0, 'b'), insert(3, 1, 400, 0, 'c'), insert(4, 1, 400, 0, 'd')))
	ops := r.Ops() // with room for two: 2.1 and 3.1; 1.1 waits for 3.1, and then there is no room
	if len(ops) != 120 || ops[0].Client != 2 || ops[1].Client != 3 || r.Waiting() != 1 {
		t.Errorf("Ops begin with %+v, %+v; %d wait", ops[0], ops[1], r.Waiting())
	}
}

// TestNotOfTheWork: P11: an answer about a range that is not just one of the work is taken without an error, and nothing comes of it.
func TestNotOfTheWork(t *testing.T) {
	r := filled(t, 7, 8)
	begins(t, r, 4)
	k := key(7, 4)
	nothing := func(work []span, others []span) {
		t.Helper()
		for _, s := range others {
			o := insert(9, 1, 1, 0, 'x')
			leaves(t, "an answer about another range", r, func() {
				hears(t, r, same(4, s))
				hears(t, r, have(4, s))
				if s[0] <= keyOf(o) && keyOf(o) < s[1] {
					hears(t, r, have(4, s, o))
					hears(t, r, split(4, s, o))
				}
			})
			isDone(t, r, false)
			asks(t, r, 4, work...)
		}
	}
	nothing([]span{everything()}, []span{{0, top - 1}, {1, top}, {0, k}, {k, top}, {top - 1, top}, {0, 1}})
	hears(t, r, split(4, everything(), r.Ops()[3]))
	nothing([]span{{0, k}, {k, k + 1}, {k + 1, top}}, []span{everything(), {0, k + 1}, {k, top}, {0, k - 1}, {1, k}, {k + 2, top}, {k + 1, top - 1}, {k, k + 2}})
	hears(t, r, same(4, span{k + 1, top}))
	nothing([]span{{0, k}, {k, k + 1}}, []span{everything(), {k + 1, top}, {0, k + 1}})
}

// TestSame: P11: the range goes, wherever it is in the work; behind the last one the whole is asked for, and with it alone the session is done.
func TestSame(t *testing.T) {
	k := key(7, 4)
	three := []span{{0, k}, {k, k + 1}, {k + 1, top}}
	for _, order := range [][]int{{0, 1, 2}, {0, 2, 1}, {1, 0, 2}, {1, 2, 0}, {2, 0, 1}, {2, 1, 0}} {
		r := filled(t, 7, 8)
		ops := r.Ops()
		begins(t, r, 4)
		hears(t, r, split(4, everything(), ops[3]))
		left := slices.Clone(three)
		for _, i := range order {
			asks(t, r, 4, left...)
			hears(t, r, same(4, three[i]))
			isDone(t, r, false)
			left = slices.DeleteFunc(left, func(s span) bool { return s == three[i] })
			hears(t, r, same(4, three[i])) // doubled on the way
		}
		asks(t, r, 4, everything())
		asks(t, r, 4, everything())
		isDone(t, r, false)
		hears(t, r, split(4, everything(), ops[3])) // it is not the same yet
		asks(t, r, 4, three...)
		for _, s := range three {
			hears(t, r, same(4, s))
		}
		hears(t, r, same(4, everything()))
		isDone(t, r, true)
		asks(t, r, 4)
		hearRefuses(t, r, checked(raw(same(4, everything()))), api.ErrSession)
		if !slices.Equal(r.Ops(), ops) {
			t.Errorf("Ops = %+v, want %+v", r.Ops(), ops)
		}
	}
}

// TestSplit: P11: the parts stand in the place of the range, without empty ones, whatever becomes of the operation.
func TestSplit(t *testing.T) {
	k := key(5, 1)
	begun := func(client uint32) *skein.Replica {
		r := newReplica(t, client)
		begins(t, r, 4)
		return r
	}
	r := begun(7)
	hears(t, r, split(4, everything(), insert(5, 1, 1, 0, 'x'))) // it is added
	has(t, r, "x", 1, 0)
	hears(t, r, split(4, span{k + 1, top}, insert(5, 2, 1, 0, 'y'))) // nothing ahead of it
	has(t, r, "yx", 2, 0)
	asks(t, r, 4, span{0, k}, span{k, k + 1}, span{k + 1, k + 2}, span{k + 2, top})
	hears(t, r, split(4, span{k, k + 1}, insert(5, 1, 1, 0, 'x'))) // nothing ahead of it and nothing behind
	asks(t, r, 4, span{0, k}, span{k, k + 1}, span{k + 1, k + 2}, span{k + 2, top})
	hears(t, r, split(4, span{k + 2, top}, insert(1<<20-1, 1<<20-1, 1, 0, 'z'))) // nothing behind it
	has(t, r, "yx", 2, 1)
	asks(t, r, 4, span{0, k}, span{k, k + 1}, span{k + 1, k + 2}, span{k + 2, top - 1}, span{top - 1, top})
	hears(t, r, split(4, span{0, k}, insert(4, 1<<20-1, 1, 0, 'z'))) // between it and k there is one number more, which is nobody's key
	asks(t, r, 4, span{0, k - 2}, span{k - 2, k - 1}, span{k - 1, k}, span{k, k + 1}, span{k + 1, k + 2})

	r = begun(7)
	inserts(t, r, 0, 'a', insert(7, 1, 1, 0, 'a'))
	hears(t, r, split(4, everything(), insert(7, 1, 9, 0, 'b'))) // known, though another one
	has(t, r, "a", 1, 0)
	asks(t, r, 4, span{0, key(7, 1)}, span{key(7, 1), key(7, 1) + 1}, span{key(7, 1) + 1, top})

	r = filled(t, 7, 120)
	begins(t, r, 4)
	hears(t, r, split(4, everything(), insert(5, 1, 1, 0, 'x'))) // there is no room
	if len(r.Ops()) != 120 {
		t.Errorf("%d operations", len(r.Ops()))
	}
	asks(t, r, 4, span{0, k}, span{k, k + 1}, span{k + 1, top})
}

// TestTurns: P10: with more ranges than MaxAsk five are asked for, and go to the end; a part of a range is where the range was; a digest is that of now.
func TestTurns(t *testing.T) {
	r := newReplica(t, 7)
	begins(t, r, 6)
	at := uint64(0)
	var work []span
	for c := uint32(10); c < 16; c++ {
		k := key(uint64(c), 1)
		hears(t, r, split(6, span{at, top}, insert(c, 1, 1, 0, 's')))
		work = append(work, span{at, k}, span{k, k + 1})
		at = k + 1
		if c == 11 {
			asks(t, r, 6, append(slices.Clone(work), span{at, top})...) // just five
		}
	}
	work = append(work, span{at, top})
	turn := func(count int) {
		t.Helper()
		asks(t, r, 6, work[:count]...)
		work = append(slices.Clone(work[count:]), work[:count]...)
	}
	for range 4 { // 13 ranges
		turn(5)
	}
	inserts(t, r, 0, 'a', insert(7, 1, 2, 0, 'a'))
	turn(5)
	for _, i := range []int{7, 2, 0, 9} {
		hears(t, r, same(6, work[i]))
		work = slices.Delete(work, i, i+1)
	}
	turn(5)
	for i, s := range work {
		if s == (span{key(11, 1) + 1, key(12, 1)}) {
			k := key(11, 5)
			hears(t, r, split(6, s, insert(11, 5, 1, 0, 's')))
			work = slices.Replace(work, i, i+1, span{s[0], k}, span{k, k + 1}, span{k + 1, s[1]})
			break
		}
	}
	if len(work) != 11 {
		t.Fatalf("the test's own work: %v", work)
	}
	for range 5 {
		turn(5)
	}
	for len(work) > 4 {
		hears(t, r, same(6, work[0]))
		work = work[1:]
	}
	turn(4)
	turn(4)
	isDone(t, r, false)
}

// TestHave: P11: what the other one has is added; what they lack is given, by its keys, six at a time; the range stays.
func TestHave(t *testing.T) {
	r := filled(t, 7, 19)
	l := r.Ops()
	begins(t, r, 4)
	hears(t, r, have(4, everything()), give(4, l[:6]...), give(4, l[6:12]...), give(4, l[12:18]...), give(4, l[18]))
	asks(t, r, 4, everything())
	hears(t, r, have(4, everything(), l[0], l[7], l[8], l[18]), give(4, l[1:7]...), give(4, l[9:15]...), give(4, l[15:18]...))
	isDone(t, r, false)
	k := key(7, 14)
	hears(t, r, split(4, everything(), l[13]))
	hears(t, r, have(4, span{k + 1, top}), give(4, l[14:]...)) // five
	hears(t, r, have(4, span{k + 1, top}, insert(9, 1, 99, key(7, 1), 'x'), insert(9, 2, 99, 0, 'y')), give(4, l[14:]...))
	hears(t, r, have(4, span{k, k + 1}), give(4, l[13]))
	hears(t, r, have(4, span{k, k + 1}, l[13]))
	hears(t, r, have(4, span{0, k}, l[0], l[3], l[5], l[12]), give(4, l[1], l[2], l[4], l[6], l[7], l[8]), give(4, l[9:12]...))
	asks(t, r, 4, span{0, k}, span{k, k + 1}, span{k + 1, top})
	if ops := r.Ops(); len(ops) != 21 || ops[19] != insert(9, 1, 99, key(7, 1), 'x') {
		t.Errorf("Ops = %+v", ops)
	}
}

// TestHaveNow: P11: what is given is what is there now, with what the frame's own operations have made ready; what of it is refused or waits is not given, and keys count, not operations.
func TestHaveNow(t *testing.T) {
	r := newReplica(t, 7)
	begins(t, r, 4)
	hears(t, r, have(4, everything())) // both have nothing
	inserts(t, r, 0, 'a', insert(7, 1, 1, 0, 'a'))
	waits(t, r, insert(5, 1, 9, key(3, 1), 'b'))
	hears(t, r, have(4, everything(), insert(3, 1, 2, 0, 'c'), insert(4, 2, 3, 0, 'd'), insert(6, 1, 1, key(7, 1), 'e'), insert(7, 1, 5, 0, 'z')), give(4, insert(5, 1, 9, key(3, 1), 'b')))
	has(t, r, "cba", 3, 2)
	hears(t, r, have(4, everything(), insert(7, 1, 5, 0, 'z')), give(4, insert(3, 1, 2, 0, 'c'), insert(5, 1, 9, key(3, 1), 'b')))
	asks(t, r, 4, everything())

	r = filled(t, 7, 119)
	l := r.Ops()
	begins(t, r, 4)
	hears(t, r, split(4, everything(), l[0]))
	hears(t, r, have(4, span{0, key(7, 1)}, insert(2, 1, 1, 0, 'x'), insert(3, 1, 1, 0, 'y'), insert(4, 2, 1, 0, 'z')))
	if ops := r.Ops(); len(ops) != 120 || ops[0] != insert(2, 1, 1, 0, 'x') || r.Waiting() != 1 {
		t.Errorf("at MaxOps: %+v, %d wait", ops[0], r.Waiting())
	}
}

// TestGives: P11: every number of operations that may be lacking.
func TestGives(t *testing.T) {
	for count := range 121 {
		r := filled(t, 7, count)
		l := r.Ops()
		begins(t, r, 4)
		var want []api.Frame
		for some := range slices.Chunk(l, 6) {
			want = append(want, give(4, some...))
		}
		hears(t, r, have(4, everything()), want...)
	}
}

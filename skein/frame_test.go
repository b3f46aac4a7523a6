package skein_test

import (
	"bytes"
	"math/rand/v2"
	"reflect"
	"testing"

	"skein/api"
	"skein/skein"
)

const top = 1 << 40

// someFrames: right frames of all kinds, with their bytes ahead of the check.
func someFrames() []struct {
	f    api.Frame
	body string
} {
	a := insert(1, 1, 1, 0, 'a')
	b := insert(1, 2, 2, 1048577, 'b')
	gone := remove(2, 300, 128, 1048577)
	far := insert(1<<20-1, 1<<20-1, 1<<30-1, key(1<<20-1, 1<<20-2), 0x10ffff)
	return []struct {
		f    api.Frame
		body string
	}{
		{api.Frame{Kind: api.Ask, Session: 1, Hi: top, Digest: api.Digest{9, 0, 255}}, "\x01\x01\x00\x80\x80\x80\x80\x80\x20\x09\x00\xff"},
		{api.Frame{Kind: api.Ask, Session: 128, Lo: top - 1, Hi: top}, "\x01\x80\x01\xff\xff\xff\xff\xff\x1f\x80\x80\x80\x80\x80\x20\x00\x00\x00"},
		{api.Frame{Kind: api.Same, Session: 1<<30 - 1, Lo: 127, Hi: 128}, "\x02\xff\xff\xff\xff\x03\x7f\x80\x01"},
		{api.Frame{Kind: api.Split, Session: 2, Lo: 1048577, Hi: 1048578, Ops: []api.Op{a}}, "\x03\x02\x81\x80\x40\x82\x80\x40\x01\x01\x01\x01\x01\x00\x61"},
		{api.Frame{Kind: api.Have, Session: 3, Hi: 1}, "\x04\x03\x00\x01\x00"},
		{api.Frame{Kind: api.Have, Session: 3, Hi: top, Ops: []api.Op{a, b, gone, far}}, "\x04\x03\x00\x80\x80\x80\x80\x80\x20\x04" +
			"\x01\x01\x01\x01\x00\x61" + "\x01\x01\x02\x02\x81\x80\x40\x62" + "\x02\x02\xac\x02\x80\x01\x81\x80\x40" +
			"\x01\xff\xff\x3f\xff\xff\x3f\xff\xff\xff\xff\x03\xfe\xff\xff\xff\xff\x1f\xff\xff\x43"},
		{api.Frame{Kind: api.Give, Session: 4, Ops: []api.Op{gone}}, "\x05\x04\x01\x02\x02\xac\x02\x80\x01\x81\x80\x40"},
		{api.Frame{Kind: api.Give, Session: 4, Ops: rising(6)}, "\x05\x04\x06\x01\x01\x01\x01\x00\x61\x01\x01\x02\x02\x00\x61\x01\x01\x03\x03\x00\x61\x01\x01\x04\x04\x00\x61\x01\x01\x05\x05\x00\x61\x01\x01\x06\x06\x00\x61"},
	}
}

// takes: a right frame: its bytes, and it again.
func takes(t *testing.T, what string, f api.Frame) {
	t.Helper()
	want := checked(raw(f))
	if b, e := skein.Pack(f); e != api.OK || !bytes.Equal(b, want) {
		t.Errorf("%s: Pack(%+v) = %x, %d, want %x", what, f, b, e, want)
	}
	if got, e := skein.Unpack(want); e != api.OK || !reflect.DeepEqual(got, f) {
		t.Errorf("%s: Unpack(%x) = %+v, %d, want %+v", what, want, got, e, f)
	}
}

// packRefuses: P4 and P1: a wrong frame, and nothing beside the error.
func packRefuses(t *testing.T, what string, f api.Frame) {
	t.Helper()
	if b, e := skein.Pack(f); e != api.ErrFrame || len(b) != 0 {
		t.Errorf("%s: Pack(%+v) = %x, %d", what, f, b, e)
	}
}

// unpackRefuses: P4 and P1: wrong bytes, and nothing beside the error.
func unpackRefuses(t *testing.T, what string, b []byte) {
	t.Helper()
	if f, e := skein.Unpack(b); e != api.ErrFrame || !reflect.DeepEqual(f, api.Frame{}) {
		t.Errorf("%s: Unpack(%x) = %+v, %d", what, b, f, e)
	}
}

// refuses: a wrong frame, and its bytes with their right check.
func refuses(t *testing.T, what string, f api.Frame) {
	t.Helper()
	packRefuses(t, what, f)
	unpackRefuses(t, what, checked(raw(f)))
}

func giveOf(o api.Op) api.Frame {
	return api.Frame{Kind: api.Give, Session: 1, Ops: []api.Op{o}}
}

func TestFrameBytes(t *testing.T) {
	for _, c := range someFrames() {
		if string(raw(c.f)) != c.body {
			t.Errorf("the test's own bytes of %+v: %x, want %x", c.f, raw(c.f), c.body)
		}
		takes(t, "written out", c.f)
	}
}

func TestFrameKinds(t *testing.T) {
	for _, kind := range []int{0, 6, 7, 127, 128, 255} {
		f := api.Frame{Kind: kind, Session: 1}
		refuses(t, "kind", f)
		f.Hi = 1
		packRefuses(t, "kind", f)
		unpackRefuses(t, "kind", checked([]byte{byte(kind), 1, 0, 1}))
		unpackRefuses(t, "kind", checked([]byte{byte(kind), 1, 0, 1, 0}))
	}
	for _, kind := range []int{-1, -256, 256 + api.Same, 1<<32 + api.Same, -1 << 63, 1<<63 - 1} {
		packRefuses(t, "kind", api.Frame{Kind: kind, Session: 1, Hi: 1})
	}
}

func TestFrameSession(t *testing.T) {
	for kind := api.Ask; kind <= api.Give; kind++ {
		f := api.Frame{Kind: kind, Hi: top}
		if kind == api.Give {
			f.Hi = 0
		}
		if kind == api.Split || kind == api.Give {
			f.Ops = rising(1)
		}
		for _, s := range []uint32{1, 127, 128, 16383, 16384, 1<<21 - 1, 1 << 21, 1<<28 - 1, 1 << 28, 1<<30 - 1} {
			f.Session = s
			takes(t, "session", f)
		}
		for _, s := range []uint32{0, 1 << 30, 1<<30 + 1, 1 << 31, 1<<32 - 1} {
			f.Session = s
			refuses(t, "session", f)
		}
	}
}

func TestFrameRange(t *testing.T) {
	edges := []uint64{0, 1, 127, 128, 1<<14 - 1, 1 << 14, 1<<21 - 1, 1 << 21, 1<<28 - 1, 1 << 28, 1<<35 - 1, 1 << 35, top - 1, top, top + 1, 1 << 42, 1<<49 - 1, 1 << 56, 1 << 63, 1<<64 - 1}
	for _, kind := range []int{api.Ask, api.Same, api.Have} {
		for _, lo := range edges {
			for _, hi := range edges {
				f := api.Frame{Kind: kind, Session: 5, Lo: lo, Hi: hi}
				if lo < hi && hi <= top {
					takes(t, "range", f)
				} else {
					refuses(t, "range", f)
				}
			}
		}
	}
	for _, r := range [][2]uint64{{0, 1}, {1, 0}, {1, 1}, {0, top}, {1, top}, {0, 1 << 63}} {
		packRefuses(t, "a Give with a range", api.Frame{Kind: api.Give, Session: 5, Lo: r[0], Hi: r[1], Ops: rising(1)})
		b := joined(append([]piece{single(api.Give), number(5), number(r[0]), number(r[1]), single(1)}, opPieces(rising(1)[0])...))
		unpackRefuses(t, "a Give with a range", checked(b))
	}
}

func TestFrameDigest(t *testing.T) {
	for i := range 3 {
		d := api.Digest{}
		d[i] = 1
		takes(t, "digest", api.Frame{Kind: api.Ask, Session: 1, Hi: top, Digest: d})
		packRefuses(t, "digest", api.Frame{Kind: api.Same, Session: 1, Hi: top, Digest: d})
		packRefuses(t, "digest", api.Frame{Kind: api.Split, Session: 1, Hi: top, Digest: d, Ops: rising(1)})
		packRefuses(t, "digest", api.Frame{Kind: api.Have, Session: 1, Hi: top, Digest: d})
		packRefuses(t, "digest", api.Frame{Kind: api.Give, Session: 1, Digest: d, Ops: rising(1)})
	}
	unpackRefuses(t, "a Same with a digest", checked([]byte{api.Same, 1, 0, 1, 0, 0, 0}))
	unpackRefuses(t, "an Ask with none", checked([]byte{api.Ask, 1, 0, 1}))
}

func TestFrameCounts(t *testing.T) {
	for _, c := range []struct{ kind, least, most int }{
		{api.Ask, 0, 0}, {api.Same, 0, 0}, {api.Split, 1, 1}, {api.Have, 0, 4}, {api.Give, 1, 6},
	} {
		for n := range 9 {
			f := api.Frame{Kind: c.kind, Session: 1, Hi: top, Ops: rising(n)}
			if c.kind == api.Give {
				f.Hi = 0
			}
			if n >= c.least && n <= c.most {
				takes(t, "count", f)
				continue
			}
			packRefuses(t, "count", f)
			if c.kind >= api.Split {
				unpackRefuses(t, "count", checked(raw(f)))
			}
		}
	}
	for _, n := range []int{255, 256, 256 + 1, 512 + 4, 1000} { // as a byte some of them are few
		f := api.Frame{Kind: api.Give, Session: 1, Ops: rising(n)}
		refuses(t, "count", f)
		f.Kind, f.Hi = api.Have, top
		refuses(t, "count", f)
	}
	for _, n := range []byte{0, 2, 3, 4, 5, 6, 7, 255} {
		b := raw(giveOf(rising(1)[0]))
		b[2] = n
		unpackRefuses(t, "a count that is not that of the operations", checked(b))
	}
}

func TestFrameNoOps(t *testing.T) {
	f := api.Frame{Kind: api.Same, Session: 1, Hi: 1, Ops: []api.Op{}}
	if b, e := skein.Pack(f); e != api.OK || !bytes.Equal(b, checked(raw(f))) {
		t.Errorf("Pack of an empty list of operations: %x, %d", b, e)
	}
}

func TestFrameOpsInRange(t *testing.T) {
	o := insert(3, 5, 1, 0, 'x')
	k := key(3, 5)
	for _, kind := range []int{api.Split, api.Have} {
		for _, r := range [][2]uint64{{k, k + 1}, {0, k + 1}, {k, top}, {0, top}} {
			takes(t, "in the range", api.Frame{Kind: kind, Session: 1, Lo: r[0], Hi: r[1], Ops: []api.Op{o}})
		}
		for _, r := range [][2]uint64{{k + 1, k + 2}, {k - 1, k}, {0, k}, {k + 1, top}, {0, 1}, {top - 1, top}} {
			refuses(t, "out of the range", api.Frame{Kind: kind, Session: 1, Lo: r[0], Hi: r[1], Ops: []api.Op{o}})
		}
	}
	refuses(t, "the last one out of the range", api.Frame{Kind: api.Have, Session: 1, Lo: 0, Hi: key(1, 4), Ops: rising(4)})
	refuses(t, "the first one out of the range", api.Frame{Kind: api.Have, Session: 1, Lo: key(1, 2), Hi: top, Ops: rising(4)})
}

func TestFrameOpsRise(t *testing.T) {
	a, b, c := insert(1, 2, 1, 0, 'a'), insert(1, 3, 1, 0, 'b'), insert(2, 1, 1, 0, 'c')
	for _, f := range []api.Frame{{Kind: api.Have, Session: 1, Hi: top}, {Kind: api.Give, Session: 1}} {
		f.Ops = []api.Op{a, b, c}
		takes(t, "rising", f)
		for _, ops := range [][]api.Op{{a, a}, {b, a}, {a, c, b}, {c, a}, {a, b, b}, {a, b, remove(1, 3, 9, key(1, 2))}} {
			f.Ops = ops
			refuses(t, "not rising", f)
		}
	}
}

func TestOpBounds(t *testing.T) {
	for _, o := range []api.Op{
		insert(1, 1, 1, 0, 32), insert(1, 1, 1, 0, 127), insert(1, 1, 1, 0, 128), insert(1, 1, 1, 0, 1<<14-1), insert(1, 1, 1, 0, 1<<14),
		insert(1, 1, 1, 0, 55295), insert(1, 1, 1, 0, 57344), insert(1, 1, 1, 0, 1114111),
		insert(1<<20-1, 1, 1, 0, 'a'), insert(1, 1<<20-1, 1, 0, 'a'), insert(1, 1, 1<<30-1, 0, 'a'),
		insert(127, 128, 16383, 0, 'a'), insert(128, 16384, 1<<21, 0, 'a'), insert(16384, 127, 1<<28, 0, 'a'),
		insert(1, 1, 1, key(1, 2), 'a'), insert(1, 2, 1, key(1, 1), 'a'), insert(2, 1, 1, key(1, 1), 'a'), insert(1, 1, 1, top-1, 'a'),
		insert(1, 1, 1, key(1, 1<<20-1), 'a'), insert(1, 1, 1, key(1<<20-1, 1), 'a'),
		remove(1, 2, 1, key(1, 1)), remove(1, 1, 1, key(1, 2)), remove(1, 1, 1<<30-1, top-1), remove(1<<20-1, 1<<20-1, 1, key(1, 1)),
	} {
		takes(t, "operation", giveOf(o))
	}
	for _, o := range []api.Op{
		{}, {Kind: 3, Client: 1, Clock: 1, Stamp: 1, Ref: key(1, 2)}, {Kind: 255, Client: 1, Clock: 1, Stamp: 1, Ref: key(1, 2)},
		insert(0, 1, 1, 0, 'a'), insert(1<<20, 1, 1, 0, 'a'), insert(1<<32-1, 1, 1, 0, 'a'),
		insert(1, 0, 1, 0, 'a'), insert(1, 1<<20, 1, 0, 'a'), insert(1, 1<<32-1, 1, 0, 'a'),
		insert(1, 1, 0, 0, 'a'), insert(1, 1, 1<<30, 0, 'a'), insert(1, 1, 1<<32-1, 0, 'a'),
		insert(1, 1, 1, 1, 'a'), insert(1, 1, 1, 1<<20-1, 'a'), insert(1, 1, 1, 1<<20, 'a'), insert(1, 1, 1, 2<<20, 'a'),
		insert(1, 1, 1, top-1<<20, 'a'), insert(1, 1, 1, top, 'a'), insert(1, 1, 1, top+1, 'a'), insert(1, 1, 1, top+key(1, 2), 'a'), insert(1, 1, 1, 1<<63, 'a'), insert(1, 1, 1, 1<<64-1, 'a'),
		insert(1, 1, 1, key(1, 1), 'a'), insert(7, 9, 1, key(7, 9), 'a'),
		insert(1, 1, 1, 0, 0), insert(1, 1, 1, 0, 31), insert(1, 1, 1, 0, -1), insert(1, 1, 1, 0, -1<<31), insert(1, 1, 1, 0, 55296), insert(1, 1, 1, 0, 56000), insert(1, 1, 1, 0, 57343), insert(1, 1, 1, 0, 1114112), insert(1, 1, 1, 0, 1<<31-1),
		remove(0, 1, 1, key(1, 2)), remove(1, 0, 1, key(1, 2)), remove(1, 1, 0, key(1, 2)), remove(1<<20, 1, 1, key(1, 2)), remove(1, 1<<20, 1, key(1, 2)), remove(1, 1, 1<<30, key(1, 2)),
		remove(1, 1, 1, 0), remove(1, 1, 1, 5), remove(1, 1, 1, 1<<20), remove(1, 1, 1, key(1, 1)), remove(1, 1, 1, top), remove(1, 1, 1, top+key(1, 2)),
	} {
		refuses(t, "operation", giveOf(o))
	}
	for _, o := range []api.Op{
		{Kind: api.Delete, Client: 1, Clock: 1, Stamp: 1, Ref: key(1, 2), Char: 'a'}, {Kind: api.Delete, Client: 1, Clock: 1, Stamp: 1, Ref: key(1, 2), Char: -1},
		{Kind: -1, Client: 1, Clock: 1, Stamp: 1, Char: 'a'}, {Kind: 257, Client: 1, Clock: 1, Stamp: 1, Char: 'a'}, {Kind: 258, Client: 1, Clock: 1, Stamp: 1, Ref: key(1, 2)},
	} {
		packRefuses(t, "operation", giveOf(o))
	}
	unpackRefuses(t, "a Delete with a Char", checked(joined(append(framePieces(giveOf(remove(1, 1, 1, key(1, 2)))), number(0)))))
	unpackRefuses(t, "an Insert with no Char", checked([]byte{api.Give, 1, 1, api.Insert, 1, 1, 1, 0}))
	good := rising(4)
	for i := range good { // one wrong operation is enough, wherever it is
		ops := rising(4)
		ops[i].Stamp = 0
		refuses(t, "a wrong one among right ones", api.Frame{Kind: api.Have, Session: 1, Hi: top, Ops: ops})
		refuses(t, "a wrong one among right ones", api.Frame{Kind: api.Give, Session: 1, Ops: ops})
	}
}

// TestVarintForms: each number of each frame with groups that it does not need, with bits that a smaller number would lose, and without an end.
func TestVarintForms(t *testing.T) {
	for _, c := range someFrames() {
		pieces := framePieces(c.f)
		for i, p := range pieces {
			if !p.varint {
				continue
			}
			ahead, behind := joined(pieces[:i]), joined(pieces[i+1:])
			with := func(v []byte) []byte { return checked(bytes.Join([][]byte{ahead, v, behind}, nil)) }
			if f, e := skein.Unpack(with(varint(p.n))); e != api.OK || !reflect.DeepEqual(f, c.f) {
				t.Fatalf("Unpack of the right bytes: %+v, %d", f, e)
			}
			for groups := len(varint(p.n)) + 1; groups < 14; groups++ {
				unpackRefuses(t, "too many groups", with(varintOf(p.n, groups)))
			}
			for bit := 41; bit < 64; bit++ {
				unpackRefuses(t, "a great number", with(varint(p.n|1<<bit)))
			}
			for bit := range 7 { // a tenth group has one bit of 64 only
				ten := varintOf(p.n, 10)
				ten[9] = 1 << bit
				unpackRefuses(t, "ten groups", with(ten))
				eleven := varintOf(p.n, 11)
				eleven[10] = 1 << bit
				unpackRefuses(t, "eleven groups", with(eleven))
			}
			unpackRefuses(t, "no end", checked(append(append([]byte{}, ahead...), bytes.Repeat([]byte{0x80}, 40)...)))
			unpackRefuses(t, "no end", checked(append(append([]byte{}, ahead...), bytes.Repeat([]byte{0xff}, 40)...)))
		}
	}
}

func TestCutAndMore(t *testing.T) {
	unpackRefuses(t, "nothing", nil)
	unpackRefuses(t, "nothing", []byte{})
	unpackRefuses(t, "a check alone", checked(nil))
	for _, c := range someFrames() {
		body := []byte(c.body)
		whole := checked(body)
		for i := range whole {
			unpackRefuses(t, "cut short", whole[:i])
			unpackRefuses(t, "cut at the front", whole[i+1:])
		}
		for i := range body {
			unpackRefuses(t, "cut short, with a right check", checked(body[:i]))
		}
		for more := range 256 {
			unpackRefuses(t, "a byte more", append(bytes.Clone(whole), byte(more)))
			unpackRefuses(t, "a byte more, with a right check", checked(append(bytes.Clone(body), byte(more))))
		}
		unpackRefuses(t, "twice", append(bytes.Clone(whole), whole...))
		unpackRefuses(t, "a check more", checked(whole))
		unpackRefuses(t, "a great many more", append(bytes.Clone(whole), make([]byte, 1<<20)...))
	}
}

func TestCheck(t *testing.T) {
	for _, c := range someFrames() {
		whole := checked([]byte(c.body))
		for bit := range 8 * len(whole) { // of the body too: the check is no longer its own
			whole[bit/8] ^= 1 << (bit % 8)
			unpackRefuses(t, "a bit turned", whole)
			whole[bit/8] ^= 1 << (bit % 8)
		}
		last := len(whole) - 3
		for _, check := range [][]byte{{0, 0, 0}, {255, 255, 255}, {whole[last+2], whole[last+1], whole[last]}} {
			if !bytes.Equal(check, whole[last:]) {
				unpackRefuses(t, "another check", append(bytes.Clone(whole[:last]), check...))
			}
		}
	}
}

// someOps: up to so many operations by rising keys.
func someOps(r *rand.Rand, n int) []api.Op {
	var ops []api.Op
	client, clock := uint32(0), uint32(0)
	for range n {
		if client == 0 || r.IntN(2) == 0 {
			client, clock = client+1+r.Uint32N(1<<r.IntN(18)), 0
		}
		clock += 1 + r.Uint32N(1<<r.IntN(18))
		if client >= 1<<20 || clock >= 1<<20 {
			break
		}
		o := insert(client, clock, 1+r.Uint32N(1<<r.IntN(30)), 0, rune(32+r.Int32N(1<<r.IntN(15))))
		if r.IntN(2) == 0 {
			o.Ref = key(1+r.Uint64N(1<<20-1), 1+r.Uint64N(1<<20-1))
		}
		if r.IntN(3) == 0 {
			o = remove(client, clock, o.Stamp, key(1<<20-1, 1+r.Uint64N(1<<20-1)))
		}
		if o.Ref == key(uint64(client), uint64(clock)) {
			o.Ref--
		}
		ops = append(ops, o)
	}
	return ops
}

func someFrame(r *rand.Rand) api.Frame {
	f := api.Frame{Kind: 1 + r.IntN(5), Session: 1 + r.Uint32N(1<<r.IntN(30)), Lo: r.Uint64N(1 << 20), Hi: top - r.Uint64N(1<<20)}
	switch f.Kind {
	case api.Ask:
		f.Digest = api.Digest{byte(r.Uint32()), byte(r.Uint32()), byte(r.Uint32())}
	case api.Split:
		f.Ops = someOps(r, 1)
	case api.Have:
		f.Ops = someOps(r, r.IntN(5))
	case api.Give:
		f.Lo, f.Hi, f.Ops = 0, 0, someOps(r, 1+r.IntN(6))
	}
	return f
}

// isJust: P4's word on all bytes: what Unpack takes is just what Pack makes of it; all else is refused, with nothing beside.
func isJust(t *testing.T, b []byte) bool {
	t.Helper()
	f, e := skein.Unpack(b)
	if e != api.OK {
		unpackRefuses(t, "refused", b)
		return false
	}
	if again, e := skein.Pack(f); e != api.OK || !bytes.Equal(again, b) || !bytes.Equal(again, checked(raw(f))) {
		t.Errorf("Unpack(%x) = %+v, of which Pack makes %x, %d", b, f, again, e)
	}
	return true
}

func TestManyFrames(t *testing.T) {
	r := rand.New(rand.NewPCG(1, 2))
	taken := 0
	for range 20000 {
		f := someFrame(r)
		if f.Kind != api.Ask && f.Kind != api.Same && f.Kind != api.Have && len(f.Ops) == 0 {
			continue
		}
		takes(t, "by chance", f)
		body := raw(f)
		for range 1 + r.IntN(3) {
			at := r.IntN(len(body))
			switch r.IntN(4) {
			case 0:
				body[at] = byte(r.Uint32())
			case 1:
				body[at] ^= 1 << r.IntN(8)
			case 2:
				body = append(body[:at], body[at+1:]...)
			case 3:
				body = append(body[:at], append([]byte{byte(r.Uint32())}, body[at:]...)...)
			}
			if len(body) == 0 {
				break
			}
		}
		if isJust(t, checked(body)) {
			taken++
		}
	}
	if taken == 0 {
		t.Error("no changed frame was taken: nothing was tried")
	}
}

// TestAnyBytes: P1: any bytes end, with an answer.
func TestAnyBytes(t *testing.T) {
	r := rand.New(rand.NewPCG(3, 4))
	for range 50000 {
		b := make([]byte, r.IntN(60))
		for i := range b {
			b[i] = byte(r.Uint32())
			if r.IntN(2) == 0 {
				b[i] %= 6
			}
		}
		isJust(t, b)
		isJust(t, checked(b))
	}
}

// TestShortBodies: every body of up to two bytes is refused: no frame is that short.
func TestShortBodies(t *testing.T) {
	for i := range 1 << 16 {
		unpackRefuses(t, "short", checked([]byte{byte(i >> 8), byte(i)}))
	}
	for i := range 256 {
		unpackRefuses(t, "short", checked([]byte{byte(i)}))
	}
}

func FuzzUnpack(f *testing.F) {
	for _, c := range someFrames() {
		f.Add([]byte(c.body))
	}
	f.Fuzz(func(t *testing.T, body []byte) {
		isJust(t, body)
		isJust(t, checked(body))
	})
}

package skein_test

import (
	"crypto/sha256"
	"encoding/binary"
	"encoding/hex"
	"math"
	"math/rand/v2"
	"slices"
	"testing"

	"skein/api"
	"skein/skein"
)

// short: the first three bytes of a text's SHA-256, by the library.
func short(text []byte) api.Digest {
	sum := sha256.Sum256(text)
	return api.Digest{sum[0], sum[1], sum[2]}
}

func rankOf(o api.Op) uint64 {
	sum := sha256.Sum256(binary.BigEndian.AppendUint64(nil, keyOf(o)))
	return binary.BigEndian.Uint64(sum[:8])
}

// The digests, texts and middles of operations in the order of their keys, as the document tells them, by other code than the program's.

func middleOf(ops []api.Op) int {
	m := 0
	for i, o := range ops {
		if rankOf(o) >= rankOf(ops[m]) {
			m = i
		}
	}
	return m
}

func middleText(o api.Op) []byte { return append([]byte{2}, joined(opPieces(o))...) }

func plainText(ops []api.Op) []byte {
	if len(ops) == 0 {
		return []byte{0}
	}
	m := middleOf(ops)
	ahead, middle, behind := plainDigest(ops[:m]), short(middleText(ops[m])), plainDigest(ops[m+1:])
	return slices.Concat([]byte{1}, ahead[:], middle[:], behind[:])
}

func plainDigest(ops []api.Op) api.Digest { return short(plainText(ops)) }

func within(ops []api.Op, lo uint64, hi uint64) []api.Op {
	var in []api.Op
	for _, o := range ops {
		if lo <= keyOf(o) && keyOf(o) < hi {
			in = append(in, o)
		}
	}
	return in
}

// bounds: where a range of these operations may begin or end: at, just ahead of and just behind each key, and the numbers at and past all keys.
func bounds(ops []api.Op) []uint64 {
	all := []uint64{0, 1, 1<<20 - 1, 1 << 20, top - 1, top, top + 1, 1 << 63, math.MaxUint64 - 1, math.MaxUint64}
	for _, o := range ops {
		all = append(all, keyOf(o)-1, keyOf(o), keyOf(o)+1)
	}
	slices.Sort(all)
	return slices.Compact(all)
}

func hasRoot(t *testing.T, r *skein.Replica, lo uint64, hi uint64, want api.Digest) {
	t.Helper()
	if d := r.Root(lo, hi); d != want {
		t.Errorf("Root(%d, %d) = %x, want %x", lo, hi, d, want)
	}
}

// hasRoots holds every range of a replica against the plain way.
func hasRoots(t *testing.T, r *skein.Replica, ops []api.Op) {
	t.Helper()
	ends := bounds(ops)
	for _, lo := range ends {
		for _, hi := range ends {
			hasRoot(t, r, lo, hi, plainDigest(within(ops, lo, hi)))
		}
	}
}

// TestRootByHand: P9: digests worked out by hand from the document's texts, of the document's operations and a Delete. The ranks begin with 41 (of a's key), ab (b), 68 (d), bb (the Delete), 14 (c).
func TestRootByHand(t *testing.T) {
	const none, a, b, c, d = "6e340b", "fcac39", "a725a3", "0d7659", "9dfbdc"
	r := newReplica(t, 1)
	has := func(lo uint64, hi uint64, want string) {
		t.Helper()
		if d := r.Root(lo, hi); hex.EncodeToString(d[:]) != want {
			t.Errorf("Root(%d, %d) = %x, want %s", lo, hi, d, want)
		}
	}
	has(0, top, none)
	inserts(t, r, 0, 'a', insert(1, 1, 1, 0, 'a')) // 01 01 01 01 00 61: 283a70
	has(0, top, a)
	inserts(t, r, 1, 'b', insert(1, 2, 2, 1048577, 'b')) // 01 01 02 02 81 80 40 62: 9706d2
	has(0, top, "a2def3")                                // 01, a, 9706d2, none
	has(1048578, top, b)
	inserts(t, r, 1, 'd', insert(1, 3, 3, 1048577, 'd')) // 01 01 03 03 81 80 40 64: 2b8e17
	has(1048579, top, d)
	has(1048578, top, "0bdd01")               // 01, none, 9706d2, d
	adds(t, r, insert(2, 1, 3, 1048577, 'c')) // 01 02 01 03 81 80 40 63: 6b2431
	has(0, top, "38e65b")                     // 01, a, 9706d2, (01, none, 2b8e17, c)
	has(1048579, top, "7b735f")
	has(2097153, 2097154, c)
	has(0, 2097153, "90e7b8")
	removes(t, r, 1, remove(1, 4, 4, 2097153)) // 02 01 04 04 81 80 80 01: a9cf4a
	has(1048580, 1048581, "58cd15")
	has(1048579, 2097153, "f8704a")
	has(1048580, 2097154, "5531b4")
	has(0, top, "cf8ac3") // 01, (01, a, 9706d2, d), a9cf4a, c
	for _, s := range [][2]uint64{{0, 1048577}, {1048577, 1048577}, {1048581, 2097153}, {2097154, top}, {top, 0}, {2097154, 1048577}} {
		has(s[0], s[1], none)
	}
}

// TestRootOfNone: P9: no operation is there, or the range has none, or it ends at or ahead of its beginning: at all numbers.
func TestRootOfNone(t *testing.T) {
	none := short([]byte{0})
	hasRoots(t, newReplica(t, 1), nil)
	r := newReplica(t, 7)
	inserts(t, r, 0, 'a', insert(7, 1, 1, 0, 'a'))
	k := key(7, 1)
	for _, lo := range bounds(r.Ops()) {
		for _, hi := range bounds(r.Ops()) {
			if lo >= hi || hi <= k || lo > k {
				hasRoot(t, r, lo, hi, none)
			} else if r.Root(lo, hi) == none {
				t.Errorf("Root(%d, %d) is that of none", lo, hi)
			}
		}
	}
}

// scattered: a replica whose operations are of the least and the greatest clients and of some between, Inserts and Deletes.
func scattered(t *testing.T) *skein.Replica {
	t.Helper()
	r := newReplica(t, 300)
	adds(t, r,
		insert(1, 1, 1, 0, 'a'), insert(1, 2, 1<<30-2, key(1, 1), 0x10ffff), remove(1, 3, 3, key(1, 1)),
		insert(1<<20-1, 1, 127, 0, 32), insert(1<<20-1, 2, 128, key(1<<20-1, 1), 127), remove(1<<20-1, 3, 16384, key(1, 1)),
		insert(2, 1, 5, key(1, 1), 128), insert(128, 1, 2, 0, '世'))
	inserts(t, r, 0, 'x', insert(300, 1, 1<<30-1, 0, 'x'))
	return r
}

// TestRootOfRanges: P9: every range: from and to 0, each key, one less and one more, MaxKey and past it, and the greatest numbers.
func TestRootOfRanges(t *testing.T) {
	r := scattered(t)
	hasRoots(t, r, r.Ops())
	for _, count := range []int{1, 2, 3, 4, 5, 30} {
		r := filled(t, 3, count)
		hasRoots(t, r, r.Ops())
	}
	r = filled(t, 1<<20-1, 120)
	for lo := uint64(0); lo <= 122; lo += 3 {
		for hi := range uint64(123) {
			l, h := key(1<<20-1, lo), key(1<<20-1, hi)
			hasRoot(t, r, l, h, plainDigest(within(r.Ops(), l, h)))
		}
	}
	hasRoot(t, r, 0, top, plainDigest(r.Ops()))
}

// TestRootOfEach: P9: every part of an operation is in its digest.
func TestRootOfEach(t *testing.T) {
	met := map[api.Digest]api.Op{}
	for _, o := range []api.Op{
		insert(2, 1, 5, key(1, 1), 'a'), insert(3, 1, 5, key(1, 1), 'a'), insert(2, 1, 6, key(1, 1), 'a'), insert(2, 1, 5, key(1, 2), 'a'),
		insert(2, 1, 5, 0, 'a'), insert(2, 1, 5, key(1, 1), 'b'), remove(2, 1, 5, key(1, 1)), remove(2, 1, 5, key(1, 2)),
	} {
		r := newReplica(t, 9)
		adds(t, r, insert(1, 1, 1, 0, 'x'), insert(1, 2, 1, 0, 'y'), o)
		hasRoots(t, r, r.Ops())
		for _, d := range []api.Digest{r.Root(key(2, 0), top), r.Root(0, top)} {
			if other, ok := met[d]; ok {
				t.Errorf("%+v and %+v have the digest %x", o, other, d)
			}
			met[d] = o
		}
	}
}

// TestRootOfWaiting: P9: what waits is in no digest, until it is there; what is forgotten never is.
func TestRootOfWaiting(t *testing.T) {
	r := newReplica(t, 9)
	waits(t, r, insert(1, 2, 2, 0, 'b'), insert(2, 1, 3, key(1, 1), 'c'), insert(9, 1, 9, key(8, 8), 'w'))
	hasRoots(t, r, nil)
	hasRoot(t, r, key(1, 2), key(1, 3), short([]byte{0}))
	hasRoot(t, r, key(2, 1), key(2, 2), short([]byte{0}))
	adds(t, r, insert(3, 1, 1, 0, 'd'))
	hasRoots(t, r, []api.Op{insert(3, 1, 1, 0, 'd')})
	adds(t, r, insert(1, 1, 1, 0, 'a'))
	there := []api.Op{insert(1, 1, 1, 0, 'a'), insert(1, 2, 2, 0, 'b'), insert(2, 1, 3, key(1, 1), 'c'), insert(3, 1, 1, 0, 'd')}
	hasRoots(t, r, there)
	inserts(t, r, 0, 'v', insert(9, 1, 4, 0, 'v'))
	hasRoots(t, r, append(there, insert(9, 1, 4, 0, 'v')))
	waits(t, r, insert(5, 1, 1, key(1, 1), 'x')) // for good
	addRefuses(t, r, insert(1, 1, 7, 0, 'z'), api.ErrKnown)
	addRefuses(t, r, insert(4, 1, 7, 0, 31), api.ErrOp)
	hasRoots(t, r, append(there, insert(9, 1, 4, 0, 'v')))
}

// TestRootInAnyOrder: P13: the same operations have the same digests of all ranges, whoever has them, in whatever order they came.
func TestRootInAnyOrder(t *testing.T) {
	r := rand.New(rand.NewPCG(9, 13))
	first := scattered(t)
	for client := uint32(1); client <= 20; client++ {
		x := newReplica(t, 40*client)
		ops := first.Ops()
		for turn := 0; turn < 100 && len(x.Ops()) < len(ops); turn++ {
			r.Shuffle(len(ops), func(i, j int) { ops[i], ops[j] = ops[j], ops[i] })
			for _, o := range ops {
				x.Add(o)
			}
		}
		ends := bounds(ops)
		for _, lo := range ends {
			for _, hi := range ends {
				hasRoot(t, x, lo, hi, first.Root(lo, hi))
			}
		}
	}
}

// TestRootAsTheModel: P9: what was done in any order, right or wrong, has the digests that the document says; P2: who is asked for them tells the same later as who is not.
func TestRootAsTheModel(t *testing.T) {
	for seed := range uint64(10) {
		r := rand.New(rand.NewPCG(seed, 9))
		clients := 2 + r.Uint32N(6)
		client := 1 + r.Uint32N(clients)
		x, m := newReplica(t, client), newModel(client)
		for range 200 {
			size := len(m.told())
			switch at := r.IntN(size + 1); r.IntN(6) {
			case 0:
				x.Insert(at, 'x')
				m.insert(at, 'x')
			case 1:
				x.Delete(at)
				m.remove(at)
			default:
				o := m.drawn(r, clients)
				x.Add(o)
				m.add(o)
			}
			ops := m.ops()
			ends := bounds(ops)
			for range 4 {
				lo, hi := ends[r.IntN(len(ends))], ends[r.IntN(len(ends))]
				hasRoot(t, x, lo, hi, plainDigest(within(ops, lo, hi)))
			}
			hasRoot(t, x, 0, top, plainDigest(ops))
			isLike(t, x, m)
		}
	}
}

// TestRootLeaves: P2: Root changes nothing, not even what is told of a wide range behind a narrow one.
func TestRootLeaves(t *testing.T) {
	r, like := busy(t), busy(t)
	ends := bounds(r.Ops())
	whole := like.Root(0, top)
	for _, lo := range ends {
		for _, hi := range ends {
			leaves(t, "Root", r, func() { r.Root(lo, hi) })
			hasRoot(t, r, 0, top, whole)
		}
	}
	for _, x := range []*skein.Replica{r, like} {
		inserts(t, x, 0, 'x', insert(3, 7, 7, 0, 'x'))
		adds(t, x, insert(4, 1, 1, 0, 'y'))
		removes(t, x, 0, remove(3, 8, 10, key(4, 2)))
	}
	if r.Text() != like.Text() || !slices.Equal(r.Ops(), like.Ops()) || r.Waiting() != like.Waiting() {
		t.Errorf("%q, %+v, %d; want %q, %+v, %d", r.Text(), r.Ops(), r.Waiting(), like.Text(), like.Ops(), like.Waiting())
	}
	hasRoots(t, r, like.Ops())
}

// TestRootsTogether: P2: what is asked while others write is the digest of what there was at some time.
func TestRootsTogether(t *testing.T) {
	r := newReplica(t, 7)
	asked := make([][]api.Digest, 8)
	together(8, func(g int) {
		for range 12 {
			if g%2 == 0 {
				r.Insert(0, 'a')
			}
			asked[g] = append(asked[g], r.Root(0, top))
		}
	})
	was := map[api.Digest]int{}
	for i := range r.Ops() {
		was[plainDigest(r.Ops()[:i+1])] = i + 1
	}
	was[plainDigest(nil)] = 0
	for g, ds := range asked {
		last := 0
		for _, d := range ds {
			now, ok := was[d]
			if !ok || now < last {
				t.Errorf("the goroutine %d was told %x, behind the digest of %d operations", g, d, last)
			}
			last = now
		}
	}
}

package set

import (
	"crypto/sha256"
	"encoding/binary"
	"slices"
	"testing"

	"skein/api"
)

func op(client, clock uint32) api.Op {
	return api.Op{Kind: api.Insert, Client: client, Clock: clock, Stamp: 1, Char: 'a'}
}

// TestRank: the first 8 bytes of the SHA-256 of the key's 8 bytes, the highest first.
func TestRank(t *testing.T) {
	for _, o := range []api.Op{op(1, 1), op(1, 2), op(2, 1), op(0x12345, 0x6789a), op(1<<20-1, 1<<20-1)} {
		k := uint64(o.Client)*1048576 + uint64(o.Clock)
		sum := sha256.Sum256(binary.BigEndian.AppendUint64(nil, k))
		if got, want := (entry{o}).Rank(), binary.BigEndian.Uint64(sum[:]); got != want {
			t.Errorf("the rank of %d = %x, want %x", k, got, want)
		}
	}
}

func TestSet(t *testing.T) {
	var none Set
	one := none.With(op(2, 1))
	two := one.With(op(1, 9))
	for _, c := range []struct {
		s    Set
		want []api.Op
	}{{none, nil}, {one, []api.Op{op(2, 1)}}, {two, []api.Op{op(1, 9), op(2, 1)}}} {
		if !slices.Equal(c.s.Ops(), c.want) || c.s.Len() != len(c.want) {
			t.Errorf("Ops = %+v, Len = %d, want %+v", c.s.Ops(), c.s.Len(), c.want)
		}
	}
	if o, ok := two.Get(1<<20 + 9); !ok || o != op(1, 9) {
		t.Errorf("Get = %+v, %v", o, ok)
	}
	if o, ok := one.Get(1<<20 + 9); ok || o != (api.Op{}) {
		t.Errorf("Get of what is not there = %+v, %v", o, ok)
	}
}

func TestRange(t *testing.T) {
	var s Set
	for _, o := range []api.Op{op(2, 1), op(1, 1), op(1, 3), op(1, 2)} {
		s = s.With(o)
	}
	for _, c := range []struct {
		lo, hi uint64
		want   []api.Op
	}{
		{0, 1 << 40, []api.Op{op(1, 1), op(1, 2), op(1, 3), op(2, 1)}},
		{1<<20 + 2, 1<<21 + 1, []api.Op{op(1, 2), op(1, 3)}},
		{1<<20 + 4, 1<<64 - 1, []api.Op{op(2, 1)}},
		{1<<20 + 1, 1<<20 + 1, nil},
		{1 << 40, 0, nil},
	} {
		if got := s.Range(c.lo, c.hi).Ops(); !slices.Equal(got, c.want) {
			t.Errorf("from %d to %d: %+v, want %+v", c.lo, c.hi, got, c.want)
		}
	}
}

// TestParts: of these keys the ranks begin with 41, ab, 68 and 14.
func TestParts(t *testing.T) {
	var s Set
	if a, m, b, ok := s.Parts(); ok || m != (api.Op{}) || a.Len() != 0 || b.Len() != 0 {
		t.Errorf("the parts of nothing: %+v, %+v, %+v", a.Ops(), m, b.Ops())
	}
	for _, o := range []api.Op{op(1, 1), op(1, 2), op(1, 3), op(2, 1)} {
		s = s.With(o)
	}
	a, m, b, ok := s.Parts()
	if !ok || m != op(1, 2) || !slices.Equal(a.Ops(), []api.Op{op(1, 1)}) || !slices.Equal(b.Ops(), []api.Op{op(1, 3), op(2, 1)}) {
		t.Errorf("the parts: %+v, %+v, %+v", a.Ops(), m, b.Ops())
	}
	if a, m, b, ok := b.Parts(); !ok || m != op(1, 3) || a.Len() != 0 || !slices.Equal(b.Ops(), []api.Op{op(2, 1)}) {
		t.Errorf("the parts behind: %+v, %+v, %+v", a.Ops(), m, b.Ops())
	}
}

package set

import (
	"crypto/sha256"
	"encoding/binary"
	"slices"
	"testing"

	"skein/api"
)

func op(client, clock uint32) api.Op {
	return api.Op{Kind: api.Insert, Client: client, Clock: clock, Stamp: 1, Char: 'a'}
}

// TestRank: the first 8 bytes of the SHA-256 of the key's 8 bytes, the highest first.
func TestRank(t *testing.T) {
	for _, o := range []api.Op{op(1, 1), op(1, 2), op(2, 1), op(0x12345, 0x6789a), op(1<<20-1, 1<<20-1)} {
		k := uint64(o.Client)*1048576 + uint64(o.Clock)
		sum := sha256.Sum256(binary.BigEndian.AppendUint64(nil, k))
		if got, want := (entry{o}).Rank(), binary.BigEndian.Uint64(sum[:]); got != want {
			t.Errorf("the rank of %d = %x, want %x", k, got, want)
		}
	}
}

func TestSet(t *testing.T) {
	var none Set
	one := none.With(op(2, 1))
	two := one.With(op(1, 9))
	for _, c := range []struct {
		s    Set
		want []api.Op
	}{{none, nil}, {one, []api.Op{op(2, 1)}}, {two, []api.Op{op(1, 9), op(2, 1)}}} {
		if !slices.Equal(c.s.Ops(), c.want) || c.s.Len() != len(c.want) {
			t.Errorf("Ops = %+v, Len = %d, want %+v", c.s.Ops(), c.s.Len(), c.want)
		}
	}
	if o, ok := two.Get(1<<20 + 9); !ok || o != op(1, 9) {
		t.Errorf("Get = %+v, %v", o, ok)
	}
	if o, ok := one.Get(1<<20 + 9); ok || o != (api.Op{}) {
		t.Errorf("Get of what is not there = %+v, %v", o, ok)
	}
}

package book

import (
	"testing"

	"skein/api"
)

// TestIsSpent: a book holds no more than MaxOps operations, so that no clock comes near to MaxClock; what would be then is asked here.
func TestIsSpent(t *testing.T) {
	for _, c := range []struct {
		clock, stamp uint32
		want         bool
	}{
		{0, 0, false}, {1<<20 - 2, 1<<30 - 2, false}, {1<<20 - 1, 1, true}, {1, 1<<30 - 1, true}, {1<<20 - 1, 1<<30 - 1, true},
	} {
		if got := isSpent(c.clock, c.stamp); got != c.want {
			t.Errorf("isSpent(%d, %d) = %v", c.clock, c.stamp, got)
		}
	}
}

func TestLast(t *testing.T) {
	ops := []api.Op{{Client: 1, Clock: 1, Stamp: 7}, {Client: 1, Clock: 2, Stamp: 3}, {Client: 2, Clock: 5, Stamp: 6}}
	for client, want := range map[uint32][2]uint32{1: {2, 7}, 2: {5, 7}, 3: {0, 7}} {
		if clock, stamp := last(ops, client); clock != want[0] || stamp != want[1] {
			t.Errorf("last of %d = %d, %d, want %v", client, clock, stamp, want)
		}
	}
	if clock, stamp := last(nil, 1); clock != 0 || stamp != 0 {
		t.Errorf("last of nothing = %d, %d", clock, stamp)
	}
}

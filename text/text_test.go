package text

import (
	"slices"
	"testing"

	"skein/api"
)

func insert(client, clock, stamp uint32, ref uint64, c rune) api.Op {
	return api.Op{Kind: api.Insert, Client: client, Clock: clock, Stamp: stamp, Ref: ref, Char: c}
}

// TestString: the text does not hang on the order in which the operations are handed in.
func TestString(t *testing.T) {
	const a, b = 1<<20 + 1, 1<<20 + 2
	ops := []api.Op{
		insert(1, 1, 1, 0, 'a'), insert(1, 2, 2, a, 'b'), insert(2, 1, 3, a, 'c'), insert(1, 3, 3, a, 'd'), insert(3, 1, 9, b, '世'),
		{Kind: api.Delete, Client: 2, Clock: 2, Stamp: 4, Ref: b},
	}
	for range len(ops) {
		was := slices.Clone(ops)
		if got := String(ops); got != "acd世" {
			t.Errorf("String(%+v) = %q", ops, got)
		}
		if !slices.Equal(ops, was) {
			t.Errorf("what was handed in has changed: %+v", ops)
		}
		ops = append(ops[1:], ops[0])
	}
	if got := String(nil); got != "" || Told(nil) != nil {
		t.Errorf("of nothing: %q", got)
	}
}

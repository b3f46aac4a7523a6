package wire

import (
	"bytes"
	"crypto/sha256"
	"errors"
	"testing"

	"skein/api"
	"skein/fault"
)

func checked(body string) []byte {
	sum := sha256.Sum256([]byte(body))
	return append([]byte(body), sum[:3]...)
}

// TestUnpackFaults: what is wrong is told by an error value that can be asked for, however often it is wrapped.
func TestUnpackFaults(t *testing.T) {
	for _, c := range []struct {
		body string
		want error
		text string
	}{
		{"", fault.Short, "Kind: the bytes end too soon"},
		{"\x02\x81", fault.Short, "Session: the bytes end too soon"},
		{"\x02\x81\x00\x00\x01", fault.Long, "Session: a varint has more groups than it needs"},
		{"\x02\x80\x80\x80\x80\x04\x00\x01", fault.Bounds, "Session: out of its bounds"},
		{"\x02\x01\x00\x80\x80\x80\x80\x80\x40", fault.Bounds, "range: out of its bounds"},
		{"\x02\x01\x05\x05", fault.Order, "range: not in its order"},
		{"\x01\x01\x00\x01\x07\x07", fault.Short, "Digest: the bytes end too soon"},
		{"\x02\x01\x00\x01\x00", fault.More, "there are bytes behind the end"},
		{"\x03\x01\x00\x01\x00", fault.Count, "Ops: not as many as its kind has"},
		{"\x05\x01\x01\x01\x81\x00\x01\x01\x00\x61", fault.Long, "Ops: 0: Client: a varint has more groups than it needs"},
		{"\x05\x01\x02\x01\x01\x01\x01\x00\x61\x01\x01\x02\x01\x00", fault.Short, "Ops: 1: Char: the bytes end too soon"},
		{"\x05\x01\x01\x01\x01\x01\x01\x81\x80\x40\x61", fault.Own, "Ops: 0: Ref: names itself"},
		{"\x05\x01\x02\x01\x01\x02\x01\x00\x61\x01\x01\x01\x01\x00\x61", fault.Order, "Ops: 1: not in its order"},
		{"\x06\x01", fault.Bounds, "Kind: out of its bounds"},
	} {
		_, err := Unpack(checked(c.body))
		if !errors.Is(err, c.want) || err.Error() != c.text {
			t.Errorf("Unpack of %x: %v, want %s", c.body, err, c.text)
		}
		if fault.Number(err) != api.ErrFrame {
			t.Errorf("Unpack of %x: the number %d", c.body, fault.Number(err))
		}
	}
	b := checked("\x02\x01\x00\x01")
	b[4]++
	if _, err := Unpack(b); !errors.Is(err, fault.Check) || fault.Number(err) != api.ErrFrame {
		t.Errorf("Unpack with another check: %v", err)
	}
	if _, err := Unpack([]byte{1, 2}); !errors.Is(err, fault.Short) || fault.Number(err) != api.ErrFrame {
		t.Errorf("Unpack of two bytes: %v", err)
	}
}

// TestAppendOp: the document's example, behind what is there already.
func TestAppendOp(t *testing.T) {
	b := AppendOp([]byte{2}, api.Op{Kind: api.Insert, Client: 1, Clock: 1, Stamp: 1, Char: 'a'})
	if !bytes.Equal(b, []byte{2, 1, 1, 1, 1, 0, 0x61}) {
		t.Errorf("the bytes of the first operation: %x", b)
	}
}

// TestVarints: each length, as short as can be, and back again.
func TestVarints(t *testing.T) {
	for groups := 1; groups <= 9; groups++ {
		least := uint64(1) << (7 * (groups - 1))
		if groups == 1 {
			least = 0
		}
		most := uint64(1)<<(7*groups) - 1
		for _, n := range []uint64{least, least + 1, most - 1, most} {
			b := appendVarint(nil, n)
			if len(b) != groups {
				t.Errorf("%d has %d groups, want %d", n, len(b), groups)
			}
			r := &reader{rest: b}
			if got, err := r.varint(n); got != n || err != nil || r.end() != nil {
				t.Errorf("the varint of %d: %d, %v", n, got, err)
			}
			if n == 0 {
				continue
			}
			r = &reader{rest: b}
			if got, err := r.varint(n - 1); got != 0 || !errors.Is(err, fault.Bounds) {
				t.Errorf("the varint of %d, where it is too great: %d, %v", n, got, err)
			}
		}
	}
}

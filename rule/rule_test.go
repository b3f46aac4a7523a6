package rule

import (
	"errors"
	"testing"

	"skein/api"
	"skein/fault"
)

func TestIsKey(t *testing.T) {
	for _, k := range []uint64{1<<20 + 1, 1<<21 - 1, 2<<20 + 1, 1<<40 - 1, 1<<40 - 1<<20 + 1} {
		if !IsKey(k) {
			t.Errorf("%d is a key", k)
		}
	}
	for _, k := range []uint64{0, 1, 1<<20 - 1, 1 << 20, 2 << 20, 1<<40 - 1<<20, 1 << 40, 1<<40 + 1, 1<<41 + 1<<20 + 1, 1<<64 - 1} {
		if IsKey(k) {
			t.Errorf("%d is no key", k)
		}
	}
}

func TestIsChar(t *testing.T) {
	for _, c := range []rune{32, 127, 55295, 57344, 0x10ffff} {
		if !IsChar(c) {
			t.Errorf("%d may be in an operation", c)
		}
	}
	for _, c := range []rune{-1 << 31, -1, 0, 31, 55296, 57343, 0x110000, 1<<31 - 1} {
		if IsChar(c) {
			t.Errorf("%d may not be in an operation", c)
		}
	}
}

func TestIsSession(t *testing.T) {
	for n, want := range map[uint32]bool{0: false, 1: true, 1<<30 - 1: true, 1 << 30: false, 1<<32 - 1: false} {
		if IsSession(n) != want {
			t.Errorf("IsSession(%d) = %v", n, !want)
		}
	}
}

// TestNumbers: a wrong operation is ErrOp by itself, and ErrFrame within a frame, and the cause can be asked for in both.
func TestNumbers(t *testing.T) {
	o := api.Op{Kind: api.Insert, Client: 1, Clock: 1, Stamp: 1, Ref: Key(1, 1), Char: 'a'}
	err := RightOp(o)
	if fault.Number(err) != api.ErrOp || !errors.Is(err, fault.Own) {
		t.Errorf("RightOp: %v, %d", err, fault.Number(err))
	}
	err = RightFrame(api.Frame{Kind: api.Give, Session: 1, Ops: []api.Op{o}})
	if fault.Number(err) != api.ErrFrame || !errors.Is(err, fault.Own) {
		t.Errorf("RightFrame: %v, %d", err, fault.Number(err))
	}
	o.Ref = 0
	if err := RightOp(o); err != nil {
		t.Errorf("RightOp of a right one: %v", err)
	}
	if err := RightFrame(api.Frame{Kind: api.Give, Session: 1, Ops: []api.Op{o}}); err != nil {
		t.Errorf("RightFrame of a right one: %v", err)
	}
}

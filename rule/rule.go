// Package rule: what a right operation and a right frame are.
package rule

import (
	"strconv"

	"skein/api"
	"skein/fault"
)

const clockBits = 20

// Key names an operation by who did it and their how manieth it is. It adds: a clock past its bound must not be lost in the client's bits.
func Key(client uint32, clock uint32) uint64 {
	return uint64(client)<<clockBits + uint64(clock)
}

// KeyOf is an operation's key.
func KeyOf(o api.Op) uint64 { return Key(o.Client, o.Clock) }

// IsKey tells whether a right operation may have this key.
func IsKey(k uint64) bool {
	return k < api.MaxKey && k>>clockBits >= 1 && k%(1<<clockBits) >= 1
}

// IsChar tells whether a character may be in an operation.
func IsChar(c rune) bool {
	return c >= 32 && c <= api.MaxChar && (c < 0xd800 || c > 0xdfff)
}

// IsClient tells whether somebody of this number may write.
func IsClient(client uint32) bool { return from1(client, api.MaxClient) }

// IsSession tells whether a session may have this number.
func IsSession(session uint32) bool { return from1(session, api.MaxSession) }

func from1(n uint32, most uint32) bool { return n >= 1 && n <= most }

// RightOp tells what is wrong with an operation; nil, if it is right.
func RightOp(o api.Op) error {
	return fault.Refuse(api.ErrOp, opFault(o))
}

func opFault(o api.Op) error {
	switch {
	case o.Kind != api.Insert && o.Kind != api.Delete:
		return fault.In("Kind", fault.Bounds)
	case !IsClient(o.Client):
		return fault.In("Client", fault.Bounds)
	case !from1(o.Clock, api.MaxClock):
		return fault.In("Clock", fault.Bounds)
	case !from1(o.Stamp, api.MaxStamp):
		return fault.In("Stamp", fault.Bounds)
	case o.Ref == KeyOf(o):
		return fault.In("Ref", fault.Own)
	case !IsKey(o.Ref) && (o.Kind == api.Delete || o.Ref != 0):
		return fault.In("Ref", fault.Bounds)
	case o.Kind == api.Insert && !IsChar(o.Char):
		return fault.In("Char", fault.Bounds)
	case o.Kind == api.Delete && o.Char != 0:
		return fault.In("Char", fault.Extra)
	}
	return nil
}

// HasRange tells whether frames of this kind have a range.
func HasRange(kind int) bool { return kind >= api.Ask && kind <= api.Have }

// HasOps tells whether frames of this kind have operations.
func HasOps(kind int) bool {
	_, most := counts(kind)
	return most > 0
}

// counts: how many operations a frame of this kind has, at least and at most.
func counts(kind int) (int, int) {
	switch kind {
	case api.Split:
		return 1, 1
	case api.Have:
		return 0, api.MaxHave
	case api.Give:
		return 1, api.MaxGive
	}
	return 0, 0
}

// RightFrame tells what is wrong with a frame; nil, if it is right.
func RightFrame(f api.Frame) error {
	return fault.Refuse(api.ErrFrame, frameFault(f))
}

func frameFault(f api.Frame) error {
	least, most := counts(f.Kind)
	switch {
	case f.Kind < api.Ask || f.Kind > api.Give:
		return fault.In("Kind", fault.Bounds)
	case !IsSession(f.Session):
		return fault.In("Session", fault.Bounds)
	case f.Kind != api.Ask && f.Digest != (api.Digest{}):
		return fault.In("Digest", fault.Extra)
	case len(f.Ops) < least || len(f.Ops) > most:
		return fault.In("Ops", fault.Count)
	}
	if err := rangeFault(f); err != nil {
		return fault.In("range", err)
	}
	return fault.In("Ops", opsFault(f))
}

func rangeFault(f api.Frame) error {
	switch {
	case !HasRange(f.Kind) && (f.Lo != 0 || f.Hi != 0):
		return fault.Extra
	case HasRange(f.Kind) && f.Hi > api.MaxKey:
		return fault.Bounds
	case HasRange(f.Kind) && f.Lo >= f.Hi:
		return fault.Order
	}
	return nil
}

func opsFault(f api.Frame) error {
	for i, o := range f.Ops {
		part := strconv.Itoa(i)
		if err := RightOp(o); err != nil {
			return fault.In(part, err)
		}
		k := KeyOf(o)
		if HasRange(f.Kind) && (k < f.Lo || k >= f.Hi) {
			return fault.In(part, fault.Bounds)
		}
		if i > 0 && k <= KeyOf(f.Ops[i-1]) {
			return fault.In(part, fault.Order)
		}
	}
	return nil
}

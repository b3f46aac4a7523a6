// Package wire: the bytes of operations and frames.
package wire

import (
	"strconv"

	"skein/api"
	"skein/fault"
	"skein/rule"
	"skein/sha"
)

const checkSize = 3

// Pack makes a right frame's bytes, and tells what is wrong with another one.
func Pack(f api.Frame) ([]byte, error) {
	if err := rule.RightFrame(f); err != nil {
		return nil, err
	}
	return Bytes(f), nil
}

// Bytes are those of a right frame.
func Bytes(f api.Frame) []byte {
	b := appendVarint([]byte{byte(f.Kind)}, uint64(f.Session))
	if rule.HasRange(f.Kind) {
		b = appendVarint(b, f.Lo)
		b = appendVarint(b, f.Hi)
	}
	if f.Kind == api.Ask {
		b = append(b, f.Digest[:]...)
	}
	if rule.HasOps(f.Kind) {
		b = append(b, byte(len(f.Ops)))
	}
	for _, o := range f.Ops {
		b = AppendOp(b, o)
	}
	check := checkOf(b)
	return append(b, check[:]...)
}

// AppendOp puts a right operation's bytes behind b.
func AppendOp(b []byte, o api.Op) []byte {
	b = append(b, byte(o.Kind))
	b = appendVarint(b, uint64(o.Client))
	b = appendVarint(b, uint64(o.Clock))
	b = appendVarint(b, uint64(o.Stamp))
	b = appendVarint(b, o.Ref)
	if o.Kind == api.Insert {
		b = appendVarint(b, uint64(o.Char))
	}
	return b
}

func appendVarint(b []byte, n uint64) []byte {
	for n >= goesOn {
		b = append(b, byte(n%goesOn)+goesOn)
		n >>= groupBits
	}
	return append(b, byte(n))
}

func checkOf(b []byte) [checkSize]byte {
	sum := sha.Sum(b)
	return [checkSize]byte{sum[0], sum[1], sum[2]}
}

// Unpack reads the bytes of a right frame, and tells what is wrong with others.
func Unpack(b []byte) (api.Frame, error) {
	f, err := readFrame(b)
	if err != nil {
		return api.Frame{}, fault.Refuse(api.ErrFrame, err)
	}
	if err := rule.RightFrame(f); err != nil {
		return api.Frame{}, err
	}
	return f, nil
}

// readFrame reads ahead of the check: so no more is summed than a frame can have.
func readFrame(b []byte) (api.Frame, error) {
	if len(b) < checkSize {
		return api.Frame{}, fault.In("check", fault.Short)
	}
	body, check := b[:len(b)-checkSize], b[len(b)-checkSize:]
	r := &reader{rest: body}
	f, err := readParts(r)
	if err != nil {
		return api.Frame{}, err
	}
	if err := r.end(); err != nil {
		return api.Frame{}, err
	}
	if checkOf(body) != [checkSize]byte(check) {
		return api.Frame{}, fault.Check
	}
	return f, nil
}

func readParts(r *reader) (api.Frame, error) {
	f := api.Frame{}
	kind, err := r.next()
	if err != nil {
		return f, fault.In("Kind", err)
	}
	f.Kind = int(kind)
	session, err := r.varint(api.MaxSession)
	if err != nil {
		return f, fault.In("Session", err)
	}
	f.Session = uint32(session)
	if f.Lo, f.Hi, err = readRange(r, f.Kind); err != nil {
		return f, fault.In("range", err)
	}
	if f.Digest, err = readDigest(r, f.Kind); err != nil {
		return f, fault.In("Digest", err)
	}
	if f.Ops, err = readOps(r, f.Kind); err != nil {
		return f, fault.In("Ops", err)
	}
	return f, nil
}

func readRange(r *reader, kind int) (uint64, uint64, error) {
	if !rule.HasRange(kind) {
		return 0, 0, nil
	}
	lo, err := r.varint(api.MaxKey)
	if err != nil {
		return 0, 0, err
	}
	hi, err := r.varint(api.MaxKey)
	return lo, hi, err
}

func readDigest(r *reader, kind int) (api.Digest, error) {
	d := api.Digest{}
	if kind != api.Ask {
		return d, nil
	}
	for i := range d {
		b, err := r.next()
		if err != nil {
			return d, err
		}
		d[i] = b
	}
	return d, nil
}

func readOps(r *reader, kind int) ([]api.Op, error) {
	if !rule.HasOps(kind) {
		return nil, nil
	}
	count, err := r.next()
	if err != nil {
		return nil, err
	}
	var ops []api.Op
	for i := range int(count) {
		o, err := readOp(r)
		if err != nil {
			return nil, fault.In(strconv.Itoa(i), err)
		}
		ops = append(ops, o)
	}
	return ops, nil
}

// part is a varint of an operation, with the most that it may be.
type part struct {
	name string
	most uint64
}

func opParts(kind int) []part {
	parts := []part{
		{"Client", api.MaxClient},
		{"Clock", api.MaxClock},
		{"Stamp", api.MaxStamp},
		{"Ref", api.MaxKey - 1},
	}
	if kind == api.Insert {
		parts = append(parts, part{"Char", api.MaxChar})
	}
	return parts
}

func readOp(r *reader) (api.Op, error) {
	kind, err := r.next()
	if err != nil {
		return api.Op{}, fault.In("Kind", err)
	}
	var n [5]uint64 // of a Delete the last stays 0, as its Char is
	for i, p := range opParts(int(kind)) {
		if n[i], err = r.varint(p.most); err != nil {
			return api.Op{}, fault.In(p.name, err)
		}
	}
	return api.Op{
		Kind:   int(kind),
		Client: uint32(n[0]),
		Clock:  uint32(n[1]),
		Stamp:  uint32(n[2]),
		Ref:    n[3],
		Char:   rune(n[4]),
	}, nil
}

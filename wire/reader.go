package wire

import (
	"errors"

	"skein/fault"
)

const (
	groupBits = 7
	goesOn    = 1 << groupBits // a group that is not the last has it
	mostBits  = 63             // all bounds are below 2 to this: nine groups never overflow
)

// reader takes bytes off the front of what is left.
type reader struct {
	rest []byte
}

func (r *reader) next() (byte, error) {
	if len(r.rest) == 0 {
		return 0, fault.Short
	}
	b := r.rest[0]
	r.rest = r.rest[1:]
	return b, nil
}

// varint refuses what is above most, so that a number of fewer bits can be made of it with none lost.
func (r *reader) varint(most uint64) (uint64, error) {
	n := uint64(0)
	for shift := 0; shift < mostBits; shift += groupBits {
		b, err := r.next()
		if err != nil {
			return 0, err
		}
		n |= uint64(b%goesOn) << shift
		if b >= goesOn {
			continue
		}
		if b == 0 && shift > 0 {
			return 0, fault.Long
		}
		if n > most {
			return 0, fault.Bounds
		}
		return n, nil
	}
	return 0, fault.Bounds
}

// end: the one place where it is right that there is no byte any more.
func (r *reader) end() error {
	if _, err := r.next(); errors.Is(err, fault.Short) {
		return nil
	}
	return fault.More
}

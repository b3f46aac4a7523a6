// Package fault: what is wrong with bytes, operations and frames, as error values.
package fault

import (
	"errors"

	"skein/api"
)

// What may be met in bytes.
var (
	Short = errors.New("the bytes end too soon")
	More  = errors.New("there are bytes behind the end")
	Long  = errors.New("a varint has more groups than it needs")
	Check = errors.New("the check is not that of the bytes")
)

// What may be met in an operation or a frame.
var (
	Bounds = errors.New("out of its bounds")
	Own    = errors.New("names itself")
	Order  = errors.New("not in its order")
	Extra  = errors.New("there where its kind has none")
	Count  = errors.New("not as many as its kind has")
)

// Other is met in a right frame, if nobody waits for such an answer.
var Other = errors.New("not of the session that goes on")

// Met is a fault with the part in which it was met.
type Met struct {
	Part string
	Err  error
}

func (m *Met) Error() string { return m.Part + ": " + m.Err.Error() }

func (m *Met) Unwrap() error { return m.Err }

// In wraps a fault by the name of the part in which it was met; no fault stays none.
func In(part string, err error) error {
	if err == nil {
		return nil
	}
	return &Met{Part: part, Err: err}
}

// Refusal is a fault with the number that a call answers to it.
type Refusal struct {
	Number api.Errno
	Err    error
}

func (r *Refusal) Error() string { return r.Err.Error() }

func (r *Refusal) Unwrap() error { return r.Err }

// Refuse wraps a fault by the number to be answered; no fault stays none.
func Refuse(number api.Errno, err error) error {
	if err == nil {
		return nil
	}
	return &Refusal{Number: number, Err: err}
}

// Number is what a call answers to err. Who has wrapped it last has the word: a wrong operation within a frame makes a wrong frame.
func Number(err error) api.Errno {
	if err == nil {
		return api.OK
	}
	var r *Refusal
	if errors.As(err, &r) {
		return r.Number
	}
	return api.ErrFrame // what nobody has numbered was met in bytes, and these come as frames alone
}

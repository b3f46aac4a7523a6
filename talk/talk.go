// Package talk: what two who write say to each other until both have the same operations.
package talk

import (
	"slices"

	"skein/api"
	"skein/book"
	"skein/digest"
	"skein/fault"
	"skein/rule"
	"skein/set"
	"skein/wire"
)

// Talk is what one of the two keeps of it: the session that they have begun. The zero one has none.
type Talk struct {
	session uint32 // 0: there is none
	work    work   // none is left only where there is no session, or it is done
}

// New begins a session; its number is a right one.
func New(session uint32) Talk { return Talk{session: session, work: work{whole()}} }

// Done tells whether there is a session, and it is done.
func (t *Talk) Done() bool { return t.session != 0 && len(t.work) == 0 }

// Tick asks for the next ranges of the work.
func (t *Talk) Tick(b *book.Book) [][]byte {
	var sent [][]byte
	for _, s := range t.work.turn(api.MaxAsk) {
		sent = append(sent, wire.Bytes(api.Frame{
			Kind:    api.Ask,
			Session: t.session,
			Lo:      s.lo,
			Hi:      s.hi,
			Digest:  digest.Of(b.Range(s.lo, s.hi)),
		}))
	}
	return sent
}

// Heard takes a frame's bytes, and tells what is to be sent then.
func (t *Talk) Heard(b *book.Book, frame []byte) ([][]byte, error) {
	f, err := wire.Unpack(frame)
	if err != nil {
		return nil, err
	}
	switch f.Kind {
	case api.Ask:
		return [][]byte{wire.Bytes(answer(f, b.Range(f.Lo, f.Hi)))}, nil
	case api.Give:
		add(b, f.Ops)
		return nil, nil
	}
	if f.Session != t.session || t.Done() {
		return nil, fault.Refuse(api.ErrSession, fault.In("Session", fault.Other))
	}
	return t.answered(b, f), nil
}

// answer is the frame that answers an Ask, of one who has these operations in its range.
func answer(ask api.Frame, in set.Set) api.Frame {
	f := api.Frame{Session: ask.Session, Lo: ask.Lo, Hi: ask.Hi}
	_, middle, _, _ := in.Parts()
	switch {
	case digest.Of(in) == ask.Digest:
		f.Kind = api.Same
	case in.Len() <= api.MaxHave:
		f.Kind, f.Ops = api.Have, in.Ops()
	default:
		f.Kind, f.Ops = api.Split, []api.Op{middle}
	}
	return f
}

// answered takes what was answered to an Ask of this session. The answer may be old: its range counts only as long as it is one of the work.
func (t *Talk) answered(b *book.Book, f api.Frame) [][]byte {
	at := slices.Index(t.work, span{f.Lo, f.Hi})
	if at < 0 {
		return nil
	}
	add(b, f.Ops)
	switch f.Kind {
	case api.Same:
		t.work.end(at)
	case api.Split:
		t.work.split(at, rule.KeyOf(f.Ops[0]))
	case api.Have:
		return t.give(lacking(b.Range(f.Lo, f.Hi), f.Ops))
	}
	return nil
}

// add does not ask what becomes of each: what is refused now is met again, as long as its range is asked for.
func add(b *book.Book, ops []api.Op) {
	for _, o := range ops {
		b.Add(o)
	}
}

// lacking: what one who has told all that they have lacks of these operations.
func lacking(in set.Set, told []api.Op) []api.Op {
	return slices.DeleteFunc(in.Ops(), func(o api.Op) bool {
		return slices.ContainsFunc(told, func(x api.Op) bool { return rule.KeyOf(x) == rule.KeyOf(o) })
	})
}

// give makes the frames that bring operations.
func (t *Talk) give(ops []api.Op) [][]byte {
	var sent [][]byte
	for some := range slices.Chunk(ops, api.MaxGive) {
		sent = append(sent, wire.Bytes(api.Frame{Kind: api.Give, Session: t.session, Ops: some}))
	}
	return sent
}

// Package book: the operations that one who writes has, and those that wait.
package book

import (
	"cmp"
	"slices"

	"skein/api"
	"skein/fault"
	"skein/rule"
	"skein/set"
	"skein/text"
)

// Book is of one client. An operation is there only if all that it needs is there: so of each client the clocks that are there have no gap.
type Book struct {
	client  uint32
	there   set.Set
	waiting []api.Op // by their keys
}

// New is the book of a client, with nothing in it.
func New(client uint32) Book { return Book{client: client} }

// Text is that of the operations that are there.
func (b *Book) Text() string { return text.String(b.there.Ops()) }

// Ops: those that are there, by their keys.
func (b *Book) Ops() []api.Op { return b.there.Ops() }

// Waiting: how many wait.
func (b *Book) Waiting() int { return len(b.waiting) }

// Range: those that are there and whose keys are from lo on and below hi.
func (b *Book) Range(lo uint64, hi uint64) set.Set { return b.there.Range(lo, hi) }

// Insert writes a character at a place of the text.
func (b *Book) Insert(at int, c rune) (api.Op, api.Errno) {
	told := text.Told(b.there.Ops())
	if at < 0 || at > len(told) {
		return api.Op{}, api.ErrPlace
	}
	if !rule.IsChar(c) {
		return api.Op{}, api.ErrChar
	}
	ref := uint64(0)
	if at > 0 {
		ref = rule.KeyOf(told[at-1])
	}
	return b.write(api.Op{Kind: api.Insert, Ref: ref, Char: c})
}

// Delete takes away the character at a place of the text.
func (b *Book) Delete(at int) (api.Op, api.Errno) {
	told := text.Told(b.there.Ops())
	if at < 0 || at >= len(told) {
		return api.Op{}, api.ErrPlace
	}
	return b.write(api.Op{Kind: api.Delete, Ref: rule.KeyOf(told[at])})
}

// write makes an operation one's own. What waits under its key goes: two operations of one key are no set.
func (b *Book) write(o api.Op) (api.Op, api.Errno) {
	clock, stamp := last(b.there.Ops(), b.client)
	if b.isFull() || isSpent(clock, stamp) {
		return api.Op{}, api.ErrFull
	}
	o.Client, o.Clock, o.Stamp = b.client, clock+1, stamp+1
	if i, ok := b.waitsAt(rule.KeyOf(o)); ok {
		b.waiting = slices.Delete(b.waiting, i, i+1)
	}
	b.take(o)
	return o, api.OK
}

// last: the greatest clock of a client, and the greatest stamp of all; 0, where there is none.
func last(ops []api.Op, client uint32) (uint32, uint32) {
	clock, stamp := uint32(0), uint32(0)
	for _, o := range ops {
		if o.Client == client {
			clock = max(clock, o.Clock)
		}
		stamp = max(stamp, o.Stamp)
	}
	return clock, stamp
}

// isSpent tells whether there is no next clock or no next stamp.
func isSpent(clock uint32, stamp uint32) bool {
	return clock >= api.MaxClock || stamp >= api.MaxStamp
}

func (b *Book) isFull() bool { return b.there.Len() >= api.MaxOps }

// Add takes an operation of anybody: it is there then, or waits.
func (b *Book) Add(o api.Op) api.Errno {
	if e := fault.Number(rule.RightOp(o)); e != api.OK {
		return e
	}
	key := rule.KeyOf(o)
	_, isThere := b.there.Get(key)
	at, waits := b.waitsAt(key)
	switch {
	case isThere || waits:
		return api.ErrKnown
	case b.isReady(o):
		if b.isFull() {
			return api.ErrFull
		}
		b.take(o)
		return api.OK
	case len(b.waiting) >= api.MaxWaiting:
		return api.ErrFull
	}
	b.waiting = slices.Insert(b.waiting, at, o)
	return api.ErrWait
}

// waitsAt: the place, among those that wait, of the one of a key, or where it would be.
func (b *Book) waitsAt(key uint64) (int, bool) {
	return slices.BinarySearchFunc(b.waiting, key, func(o api.Op, key uint64) int {
		return cmp.Compare(rule.KeyOf(o), key)
	})
}

// isReady asks for the clock just ahead alone: with it those ahead of it are there.
func (b *Book) isReady(o api.Op) bool {
	if o.Clock > 1 {
		if _, ok := b.there.Get(rule.Key(o.Client, o.Clock-1)); !ok {
			return false
		}
	}
	if o.Ref == 0 {
		return true
	}
	on, ok := b.there.Get(o.Ref)
	return ok && on.Kind == api.Insert && on.Stamp < o.Stamp
}

// take lets a ready operation in, and then what it makes ready, as far as there is room. Each one may make one with a lesser key ready: so they are looked at from the first one on again.
func (b *Book) take(o api.Op) {
	b.there = b.there.With(o)
	for !b.isFull() {
		i := slices.IndexFunc(b.waiting, b.isReady)
		if i < 0 {
			return
		}
		b.there = b.there.With(b.waiting[i])
		b.waiting = slices.Delete(b.waiting, i, i+1)
	}
}

// Package skein: a text that several write: see DOC.md.
package skein

import (
	"sync"

	"skein/api"
	"skein/book"
	"skein/digest"
	"skein/fault"
	"skein/rule"
	"skein/set"
	"skein/sha"
	"skein/talk"
	"skein/wire"
)

// Sum is SHA-256 (P3).
func Sum(b []byte) [32]byte { return sha.Sum(b) }

// Key of an operation (P3).
func Key(client uint32, clock uint32) uint64 { return rule.Key(client, clock) }

// Pack makes a frame's bytes (P4).
func Pack(f api.Frame) ([]byte, api.Errno) {
	b, err := wire.Pack(f)
	return b, fault.Number(err)
}

// Unpack reads a frame (P4).
func Unpack(b []byte) (api.Frame, api.Errno) {
	f, err := wire.Unpack(b)
	return f, fault.Number(err)
}

// Replica is one who writes, with what is known to them.
type Replica struct {
	lock sync.Mutex // for all that is below
	book book.Book
	talk talk.Talk
}

// New makes a replica that knows nothing (P5).
func New(client uint32) (*Replica, api.Errno) {
	if !rule.IsClient(client) {
		return nil, api.ErrClient
	}
	return &Replica{book: book.New(client)}, api.OK
}

// Insert writes a character (P6).
func (r *Replica) Insert(at int, c rune) (api.Op, api.Errno) {
	r.lock.Lock()
	defer r.lock.Unlock()
	return r.book.Insert(at, c)
}

// Delete takes one away (P6).
func (r *Replica) Delete(at int) (api.Op, api.Errno) {
	r.lock.Lock()
	defer r.lock.Unlock()
	return r.book.Delete(at)
}

// Add takes an operation of anybody (P7).
func (r *Replica) Add(o api.Op) api.Errno {
	r.lock.Lock()
	defer r.lock.Unlock()
	return r.book.Add(o)
}

// Text tells the text (P8).
func (r *Replica) Text() string {
	r.lock.Lock()
	defer r.lock.Unlock()
	return r.book.Text()
}

// Ops tells all operations that are there (P8).
func (r *Replica) Ops() []api.Op {
	r.lock.Lock()
	defer r.lock.Unlock()
	return r.book.Ops()
}

// Waiting tells how many operations wait (P7).
func (r *Replica) Waiting() int {
	r.lock.Lock()
	defer r.lock.Unlock()
	return r.book.Waiting()
}

// Root tells the digest of a range of keys (P9).
func (r *Replica) Root(lo uint64, hi uint64) api.Digest { return digest.Of(r.rangeNow(lo, hi)) }

// Start begins a session (P10).
func (r *Replica) Start(session uint32) api.Errno {
	if !rule.IsSession(session) {
		return api.ErrSession
	}
	r.lock.Lock()
	defer r.lock.Unlock()
	r.talk = talk.New(session)
	return api.OK
}

// Tick tells what is to be sent (P10).
func (r *Replica) Tick() [][]byte {
	r.lock.Lock()
	defer r.lock.Unlock()
	return r.talk.Tick(&r.book)
}

// Heard takes a frame; what is to be sent then (P11).
func (r *Replica) Heard(b []byte) ([][]byte, api.Errno) {
	r.lock.Lock()
	defer r.lock.Unlock()
	sent, err := r.talk.Heard(&r.book, b)
	return sent, fault.Number(err)
}

// Done tells whether the session has found that there is nothing to do any more (P10).
func (r *Replica) Done() bool {
	r.lock.Lock()
	defer r.lock.Unlock()
	return r.talk.Done()
}

// Clash tells two texts of one digest, by which two replicas may take a range for the same (P12).
func (r *Replica) Clash(other *Replica, lo uint64, hi uint64) ([]byte, []byte) {
	return digest.Clash(r.rangesWith(other, lo, hi))
}

// rangesWith: a range of two replicas, as both were at one time. Two locks are never held at once, so that no two who look at each other wait for good; instead the one's range must still be the same when the other's has been looked at. It only ever grows: so it is the same if it is as long, and with MaxOps operations at most that comes to be.
func (r *Replica) rangesWith(other *Replica, lo uint64, hi uint64) (set.Set, set.Set) {
	mine := r.rangeNow(lo, hi)
	for {
		others := other.rangeNow(lo, hi)
		now := r.rangeNow(lo, hi)
		if now.Len() == mine.Len() {
			return mine, others
		}
		mine = now
	}
}

// rangeNow is a set that is never changed: who has it needs the lock no more.
func (r *Replica) rangeNow(lo uint64, hi uint64) set.Set {
	r.lock.Lock()
	defer r.lock.Unlock()
	return r.book.Range(lo, hi)
}

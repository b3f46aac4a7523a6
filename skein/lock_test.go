package skein

import (
	"testing"
	"time"

	"skein/api"
)

// TestCallsWait: P2: while one call goes on, no other one does. (Without a lock around them those that only ask would mostly go well.)
func TestCallsWait(t *testing.T) {
	r, _ := New(1)
	other, _ := New(2)
	asked, _ := Pack(api.Frame{Kind: api.Ask, Session: 1, Hi: api.MaxKey})
	for name, call := range map[string]func(){
		"Insert":  func() { r.Insert(0, 'a') },
		"Delete":  func() { r.Delete(0) },
		"Add":     func() { r.Add(api.Op{}) },
		"Text":    func() { r.Text() },
		"Ops":     func() { r.Ops() },
		"Waiting": func() { r.Waiting() },
		"Root":    func() { r.Root(0, api.MaxKey) },
		"Start":   func() { r.Start(1) },
		"Tick":    func() { r.Tick() },
		"Heard":   func() { r.Heard(asked) },
		"Done":    func() { r.Done() },
		"Clash":   func() { r.Clash(other, 0, api.MaxKey) },

		"the other one's Clash": func() { other.Clash(r, 0, api.MaxKey) },
	} {
		r.Insert(0, 'a')
		ended := make(chan int)
		r.lock.Lock()
		go func() {
			call()
			close(ended)
		}()
		select {
		case <-ended:
			t.Errorf("%s has not waited", name)
			r.lock.Unlock()
		case <-time.After(20 * time.Millisecond):
			r.lock.Unlock()
			<-ended
		}
	}
}

// TestClashLooksAgain: P2: what is done at the one, while Clash waits for the other one, is seen, if what is done at the other one later is.
func TestClashLooksAgain(t *testing.T) {
	r, _ := New(1)
	other, _ := New(2)
	ended := make(chan int)
	other.lock.Lock()
	go func() {
		if p, q := r.Clash(other, 0, api.MaxKey); len(p) != 0 || len(q) != 0 {
			t.Errorf("Clash = %x, %x", p, q)
		}
		close(ended)
	}()
	time.Sleep(20 * time.Millisecond)
	r.Add(api.Op{Kind: api.Insert, Client: 3, Clock: 1, Stamp: 1, Char: 'x'})
	other.book.Add(api.Op{Kind: api.Insert, Client: 426, Clock: 1, Stamp: 1, Char: 128460}) // has the digest of none
	other.lock.Unlock()
	<-ended
}

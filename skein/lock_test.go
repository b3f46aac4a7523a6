package skein

import (
	"testing"
	"time"

	"skein/api"
)

// TestCallsWait: P2: while one call goes on, no other one does. (Without a lock around them those that only ask would mostly go well.)
func TestCallsWait(t *testing.T) {
	r, _ := New(1)
	for name, call := range map[string]func(){
		"Insert":  func() { r.Insert(0, 'a') },
		"Delete":  func() { r.Delete(0) },
		"Add":     func() { r.Add(api.Op{}) },
		"Text":    func() { r.Text() },
		"Ops":     func() { r.Ops() },
		"Waiting": func() { r.Waiting() },
		"Root":    func() { r.Root(0, api.MaxKey) },
	} {
		r.Insert(0, 'a')
		ended := make(chan int)
		r.lock.Lock()
		go func() {
			call()
			close(ended)
		}()
		select {
		case <-ended:
			t.Errorf("%s has not waited", name)
			r.lock.Unlock()
		case <-time.After(20 * time.Millisecond):
			r.lock.Unlock()
			<-ended
		}
	}
}

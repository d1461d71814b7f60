package session

import (
	"testing"
	"time"

	"pawl/api"
	"pawl/curve"
)

// P15.8, from within: each call waits for the lock of its session, and gives it back, also where it answers an error.

// waits holds that a call of a session waits as long as another one is under way, and is done behind it.
func waits(t *testing.T, what string, s *Session, call func()) {
	t.Helper()
	s.lock.Lock()
	done := make(chan struct{})
	go func() {
		call()
		close(done)
	}()
	select {
	case <-done:
		t.Errorf("%s does not wait for a call that is under way", what)
	case <-time.After(30 * time.Millisecond):
	}
	s.lock.Unlock()
	<-done
	if !s.lock.TryLock() {
		t.Fatalf("%s keeps the lock", what)
	}
	s.lock.Unlock()
}

func TestEachCallWaits(t *testing.T) {
	key := make([]byte, 32)
	own, _ := curve.Pair(key)
	c := api.Config{Version: 1, Skip: 3, Store: 3}
	alice, err := Alice(key, key, key, own.Public[:], c)
	if err != nil {
		t.Fatal(err)
	}
	bob, err := Bob(key, key, key, key, c)
	if err != nil {
		t.Fatal(err)
	}
	var sent []byte
	long := make([]byte, api.MaxExtra+1)
	waits(t, "Send", alice, func() { sent, _ = alice.Send([]byte("hi"), nil, key) })
	waits(t, "Send that is refused", bob, func() { bob.Send([]byte("hi"), nil, key) })
	waits(t, "Send of what is too long", alice, func() { alice.Send(nil, long, key) })
	waits(t, "Receive of what is turned", bob, func() { bob.Receive(append(sent[:len(sent)-1:len(sent)-1], 0), nil) })
	waits(t, "Receive", bob, func() { bob.Receive(sent, nil) })
	waits(t, "Receive that is refused", bob, func() { bob.Receive(sent, nil) })
	waits(t, "Receive of no envelope", bob, func() { bob.Receive(nil, nil) })
	waits(t, "Receive with too long an extra", bob, func() { bob.Receive(sent, long) })
	waits(t, "Forget", bob, func() { bob.Forget(1) })
	waits(t, "State", bob, func() { bob.State() })
	waits(t, "Export", bob, func() { bob.Export() })
	if s := bob.State(); len(sent) == 0 || s.RecvN != 1 {
		t.Errorf("it has heard %d", s.RecvN)
	}
}

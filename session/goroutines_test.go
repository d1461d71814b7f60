package session_test

import (
	"bytes"
	"slices"
	"sync"
	"testing"

	"pawl/api"
	"pawl/session"
)

// P15.8: calls of one session from several goroutines, as they are seen from outside.

const workers = 8

// Many send at one time: every message has a number of its own, and all are heard.
func TestSendAtOneTime(t *testing.T) {
	const each = 40
	alice, bob := sides(t, api.Config{Version: 1, Skip: mostSkip, Store: mostStore})
	bob.hears(t, alice.sends(t, "first", 1), "first", 1, 1)
	var sent [workers][][]byte
	var all sync.WaitGroup
	for i := range workers {
		all.Go(func() {
			for j := range each {
				b, err := alice.s.Send([]byte{byte(i), byte(j)}, nil, nil)
				if err != nil {
					t.Errorf("Send: %v", err)
				}
				sent[i] = append(sent[i], b)
			}
		})
	}
	all.Wait()
	if n := alice.s.State().SendN; n != workers*each+1 {
		t.Fatalf("%d were sent, the number is %d", workers*each+1, n)
	}
	for i := range workers {
		for j, b := range sent[i] {
			if got, err := bob.s.Receive(b, nil); err != nil || !bytes.Equal(got.Plain, []byte{byte(i), byte(j)}) {
				t.Fatalf("the message %d of %d: %v, %v", j, i, got, err)
			}
		}
	}
	if s := bob.s.State(); s.RecvN != workers*each+1 || len(s.Spares) != 0 {
		t.Errorf("%d were heard, %d spares are left", s.RecvN, len(s.Spares))
	}
}

// Many hear at one time: each message is heard by just one of those who hand it in, and the state is the one that any order gives.
func TestReceiveAtOneTime(t *testing.T) {
	const each = 20
	alice, bob := sides(t, api.Config{Version: 2, Skip: mostSkip, Store: mostStore})
	var way [][]byte
	for i := range workers * each {
		b, err := alice.s.Send([]byte{byte(i)}, nil, seedOf(1))
		if err != nil {
			t.Fatal(err)
		}
		way = append(way, b)
	}
	inOrder, err := session.Import(bob.s.Export())
	if err != nil {
		t.Fatal(err)
	}
	for _, b := range way {
		inOrder.Receive(b, nil)
	}
	var heard [workers][]int
	var all sync.WaitGroup
	for i := range workers {
		all.Go(func() {
			for j := range way {
				at := (j*7 + i*each) % len(way) // each in an order of its own
				got, err := bob.s.Receive(way[at], nil)
				if err == nil && bytes.Equal(got.Plain, []byte{byte(at)}) {
					heard[i] = append(heard[i], at)
				} else if !sameError(err, wrap(api.PartRatchet, api.ErrOld)) {
					t.Errorf("Receive: %v, %v", got, err)
				}
			}
		})
	}
	all.Wait()
	var once []int
	for _, l := range heard {
		once = append(once, l...)
	}
	slices.Sort(once)
	if n := len(once); n != len(way) || len(slices.Compact(once)) != n {
		t.Errorf("%d of %d were heard, or some twice", n, len(way))
	}
	if !bytes.Equal(bob.s.Export(), inOrder.Export()) {
		t.Error("another state than in order")
	}
}

// While one goroutine hears and answers, others look: all that they see are states between two calls, in their order.
func TestLookAtOneTime(t *testing.T) {
	alice, bob := sides(t, api.Config{Version: 1, Skip: 5, Store: 9})
	stages := map[string]int{string(bob.s.Export()): 0}
	var calls []func(s *session.Session)
	for i := range 25 { // what Bob will be asked, and the states that he goes through
		late, b := alice.sends(t, "late", byte(i)), alice.sends(t, "soon", byte(i))
		bob.hears(t, b, "soon", min(i+1, 2), 2)
		stages[string(bob.s.Export())] = len(stages)
		bob.hears(t, late, "late", 1, 0)
		stages[string(bob.s.Export())] = len(stages)
		back := bob.sends(t, "back", byte(i)+100)
		stages[string(bob.s.Export())] = len(stages)
		alice.hears(t, back, "back", min(i+1, 2), 1)
		calls = append(calls,
			func(s *session.Session) { s.Receive(b, []byte("x")) },
			func(s *session.Session) { s.Receive(late, []byte("x")) },
			func(s *session.Session) { s.Send([]byte("back"), []byte("x"), seedOf(byte(i)+100)) })
	}
	_, again := sides(t, api.Config{Version: 1, Skip: 5, Store: 9})
	over := make(chan struct{})
	var all sync.WaitGroup
	for i := range workers {
		all.Go(func() {
			for last := 0; ; {
				b := again.s.Export()
				if i%2 == 0 {
					b = bytesByWords(again.s.State())
				}
				at, is := stages[string(b)]
				if !is || at < last {
					t.Errorf("the state %d is seen behind %d, %v", at, last, is)
					return
				}
				last = at
				select {
				case <-over:
					return
				default:
				}
			}
		})
	}
	for _, call := range calls {
		call(again.s)
	}
	close(over)
	all.Wait()
	if !bytes.Equal(again.s.Export(), bob.s.Export()) {
		t.Error("it comes to another state")
	}
}

// Forget at one time: each spare goes once.
func TestForgetAtOneTime(t *testing.T) {
	d := newDrawer(960)
	x := from(t, d.full(api.Config{Version: 1, Skip: 5, Store: mostStore}, 1000))
	var gone [workers]int
	var all sync.WaitGroup
	for i := range workers {
		all.Go(func() {
			for range 200 {
				gone[i] += x.s.Forget(1)
			}
		})
	}
	all.Wait()
	sum := 0
	for _, n := range gone {
		sum += n
	}
	if sum != 1000 || len(x.s.State().Spares) != 0 {
		t.Errorf("%d went, %d are left", sum, len(x.s.State().Spares))
	}
}

// Sessions of their own, and the calls that need none, may be used at one time.
func TestSessionsAtOneTime(t *testing.T) {
	d := newDrawer(961)
	s := d.full(api.Config{Version: 1, Skip: 3, Store: 9}, 4)
	b := byChain(s, 2).says("said")
	want := from(t, s)
	want.hears(t, b, "said", 2, 3)
	sent := want.sends(t, "c", 1)
	end := want.s.Export()
	var all sync.WaitGroup
	for i := range workers {
		all.Go(func() {
			down, err := session.Encode(s)
			x, bad := session.Import(down)
			if err != nil || bad != nil {
				t.Errorf("number %d: %v, %v", i, err, bad)
				return
			}
			got, err := x.Receive(b, []byte("x"))
			out, _ := x.Send([]byte("c"), []byte("x"), seedOf(1))
			if string(got.Plain) != "said" || err != nil || !bytes.Equal(out, sent) || !bytes.Equal(x.Export(), end) {
				t.Errorf("number %d: %v, %v", i, got, err)
			}
		})
	}
	all.Wait()
}

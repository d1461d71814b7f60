package agree_test

import (
	"bytes"
	"slices"
	"sync"
	"testing"

	"pawl/agree"
	"pawl/api"
)

// What is handed in is neither changed nor kept, and what is given is new memory, room too.

// fill overwrites a list, room too.
func fill(b []byte) {
	b = b[:cap(b)]
	for i := range b {
		b[i] = 0xa5
	}
}

func TestMemoryOfParse(t *testing.T) {
	d := newDrawer(830)
	for i := range 200 {
		b := packByWords(d.bundle(i%2 == 0))
		switch i % 5 {
		case 3:
			b[72]++ // of half of them the key for once is not offered
		case 4:
			b = b[:d.Intn(104)]
		}
		room := append(slices.Clone(b), 0x11, 0x22, 0x33)
		was := slices.Clone(room)
		want, f := parseByWords(t, b)
		got, err := agree.Parse(room[:len(b)])
		if !bytes.Equal(room, was) {
			t.Fatalf("Parse(%x) changes what was handed in", b)
		}
		fill(room)
		checkFault(t, "Parse", err, f)
		if got != want {
			t.Fatalf("Parse(%x): the answer changes with what was handed in", b)
		}
	}
}

// An error is a new one each time.
func TestMemoryOfFaults(t *testing.T) {
	d := newDrawer(831)
	once := packByWords(d.bundle(true))
	once[69] = 0
	for _, b := range [][]byte{once, once[:50], nil} {
		want, _ := agree.Parse(b)
		_, one := agree.Parse(b)
		_, other := agree.Parse(b)
		first, is := one.(*api.Fault)
		if !is || one == other {
			t.Fatalf("Parse(%x): %v and %v are one", b, one, other)
		}
		_, f := parseByWords(t, b)
		*first = api.Fault{Line: 9, At: 9, Why: 9}
		checkFault(t, "the other error", other, f)
		if again, err := agree.Parse(b); again != want {
			t.Fatalf("Parse(%x): %v, %v", b, again, err)
		} else {
			checkFault(t, "a third one", err, f)
		}
	}
}

func TestMemoryOfPack(t *testing.T) {
	d := newDrawer(832)
	for i := range 100 {
		b := d.bundle(i%2 == 0)
		if i%5 == 0 {
			b.Once = d.key()
		}
		was := b
		one, other := agree.Pack(b), agree.Pack(b)
		fill(one)
		if !bytes.Equal(other, packByWords(b)) || b != was {
			t.Fatalf("Pack(%v): %x changes with another answer", b, other)
		}
		one, other = append(agree.Pack(b), 1), append(other, 2)
		if one[104] != 1 || other[104] != 2 {
			t.Fatal("two answers share their room")
		}
	}
}

func TestMemoryOfSecrets(t *testing.T) {
	d := newDrawer(833)
	for i := range 20 {
		own, fresh, identity, signed, once := d.pair(), d.pair(), d.pair(), d.pair(), d.pair()
		hasOnce := i%2 == 0
		b := agree.Offer(identity, signed, once, hasOnce)
		was := []any{own, fresh, identity, signed, once, b}
		calls := []func() (api.Secrets, api.Errno){
			func() (api.Secrets, api.Errno) { return agree.Start(own, fresh, b) },
			func() (api.Secrets, api.Errno) {
				return agree.Answer(identity, signed, once, hasOnce, own.Public, fresh.Public)
			},
		}
		want, _ := startByWords(own, fresh, b)
		var given []api.Secrets
		for range 2 {
			for _, call := range calls {
				s, _ := call()
				given = append(given, s)
			}
		}
		for j, s := range given {
			fill(s.Extra)
			for _, later := range given[j+1:] {
				if !same(later, want) {
					t.Fatalf("secrets change with other ones: %x, not %x", later, want)
				}
			}
		}
		for j, x := range []any{own, fresh, identity, signed, once, b} {
			if x != was[j] {
				t.Fatalf("what was handed in has changed: %v", x)
			}
		}
		for _, call := range calls {
			if s, e := call(); e != api.OK || !same(s, want) {
				t.Fatalf("behind answers that were overwritten: %x, %v", s, e)
			}
		}
	}
}

// Keys that are handed in may change behind a call: what it gave stays.
func TestMemoryOfKeys(t *testing.T) {
	d := newDrawer(834)
	own, fresh, b := d.pair(), d.pair(), d.bundle(true)
	s, e := agree.Start(own, fresh, b)
	packed := agree.Pack(b)
	want, wantPacked := copied(s), slices.Clone(packed)
	own.Public, b.Identity = api.Key{}, api.Key{}
	fill(b.Once[:])
	if e != api.OK || !same(s, want) || !bytes.Equal(packed, wantPacked) {
		t.Errorf("an answer changes with a key that was handed in: %x, %v, %x", s, e, packed)
	}
}

// From arguments alone: whatever goes on beside it.
func TestAtOnce(t *testing.T) {
	var all sync.WaitGroup
	for i := range 8 {
		all.Go(func() {
			d := newDrawer(int64(840 + i))
			for range 10 {
				own, fresh, identity, signed, once := d.pair(), d.pair(), d.pair(), d.pair(), d.pair()
				hasOnce := d.Intn(2) == 0
				b, err := agree.Parse(agree.Pack(agree.Offer(identity, signed, once, hasOnce)))
				one, e := agree.Start(own, fresh, b)
				other, f := agree.Answer(identity, signed, once, hasOnce, own.Public, fresh.Public)
				want, _ := startByWords(own, fresh, b)
				if err != nil || e != api.OK || f != api.OK || !same(one, want) || !same(other, want) {
					t.Errorf("%v, %v, %v: %x, %x, not %x", err, e, f, one, other, want)
				}
				number, g := agree.Safety(own.Public, identity.Public, 50)
				if wantNumber, _ := safetyByWords(own.Public, identity.Public, 50); g != api.OK || number != wantNumber {
					t.Errorf("%q, %v, not %q", number, g, wantNumber)
				}
			}
		})
	}
	all.Wait()
}

package sign_test

import (
	"bytes"
	"slices"
	"sync"
	"testing"

	"pawl/api"
	"pawl/curve"
	"pawl/sign"
)

// roomy is n bytes with spare room behind them that holds marks, and the whole of it.
func roomy(n int) (b, all []byte) {
	all = bytes.Repeat([]byte{0xa5}, n+200)
	return all[:n], all
}

// TestNothingIsChanged: neither what is handed in nor its spare room, and the next answer is the same.
func TestNothingIsChanged(t *testing.T) {
	seed, allSeed := roomy(32)
	b, allB := roomy(50)
	random, allRandom := roomy(64)
	public, s := signing(t, seed, b)
	lent := lending(t, api.Key(seed), b, random)
	if sign.Check(public, b, s) != api.OK || sign.Honour(curve.Public(api.Key(seed)), b, lent) != api.OK {
		t.Error("they do not hold")
	}
	sign.Public(allSeed)
	sign.Sign(allSeed, b)
	sign.Lend(api.Key(seed), b, allRandom)
	for _, all := range [][]byte{allSeed, allB, allRandom} {
		if !bytes.Equal(all, bytes.Repeat([]byte{0xa5}, len(all))) {
			t.Errorf("it was changed: %x", all)
		}
	}
	if p, again := signing(t, slices.Clone(seed), slices.Clone(b)); p != public || again != s {
		t.Error("signed otherwise the second time")
	}
	if lending(t, api.Key(seed), slices.Clone(b), slices.Clone(random)) != lent {
		t.Error("lent otherwise the second time")
	}
}

// TestOneListForAll: the arguments may be one and the same list.
func TestOneListForAll(t *testing.T) {
	list := make([]byte, 64)
	for i := range list {
		list[i] = byte(3 * i)
	}
	keep := slices.Clone(list)
	_, s := signing(t, list[:32], list[:32])
	lent := lending(t, api.Key(list[:32]), list, list)
	_, want := signing(t, slices.Clone(keep[:32]), slices.Clone(keep[:32]))
	if s != want || lent != lending(t, api.Key(keep[:32]), slices.Clone(keep), slices.Clone(keep)) || !bytes.Equal(list, keep) {
		t.Error("lists that are shared are answered otherwise")
	}
}

// TestAtOnce: what is answered hangs on the arguments alone, also beside other calls.
func TestAtOnce(t *testing.T) {
	seed, b := bytes.Repeat([]byte{3}, 32), []byte("text")
	public, want := signing(t, seed, b)
	var all sync.WaitGroup
	for range 8 {
		all.Add(1)
		go func() {
			defer all.Done()
			s, _ := sign.Sign(seed, b)
			if s != want || sign.Check(public, b, s) != api.OK {
				t.Error("another answer")
			}
		}()
	}
	all.Wait()
}

package field

import (
	"math/big"
	"math/rand"
	"testing"

	"pawl/api"
)

// Which words a Num may have inside is wider than what calls from outside come upon: these tests try its edges.

var prime = new(big.Int).Sub(new(big.Int).Lsh(big.NewInt(1), 255), big.NewInt(19))

// number is what the words say, modulo P.
func number(a Num) *big.Int {
	n := new(big.Int)
	for i := range count {
		w := new(big.Int).SetUint64(a.words[i])
		n.Add(n, w.Lsh(w, uint(width*i)))
	}
	return n.Mod(n, prime)
}

// shown is what Bytes says.
func shown(a Num) *big.Int {
	b := a.Bytes()
	n := new(big.Int)
	for i := range b {
		n.Add(n.Lsh(n, 8), big.NewInt(int64(b[len(b)-1-i])))
	}
	return n
}

// edges are all numbers of which each word is at an edge.
func edges() []Num {
	list := []Num{{}}
	for i := range count {
		var longer []Num
		for _, a := range list {
			for _, w := range []uint64{0, 1, mask - 19, mask - 18, mask, 1 << width, 1<<(width+1) - 1} {
				a.words[i] = w
				longer = append(longer, a)
			}
		}
		list = longer
	}
	return list
}

func within(a Num) bool {
	for _, w := range a.words {
		if w >= 1<<(width+1) {
			return false
		}
	}
	return true
}

func TestBytesOfAllWords(t *testing.T) {
	for _, a := range edges() {
		if shown(a).Cmp(number(a)) != 0 {
			t.Fatalf("%x: %x", a.words, a.Bytes())
		}
	}
}

func TestReckoningStaysWithin(t *testing.T) {
	list := edges()
	r := rand.New(rand.NewSource(6))
	for i, a := range list {
		b := list[r.Intn(len(list))]
		if i%5 == 0 { // the greatest one, which no random choice comes upon often
			b = list[len(list)-1]
		}
		x, y := number(a), number(b)
		n := []uint32{1<<32 - 1, r.Uint32()}[i%2]
		for _, c := range []struct {
			name string
			got  Num
			want *big.Int
		}{
			{"Add", a.Add(b), new(big.Int).Add(x, y)},
			{"Sub", a.Sub(b), new(big.Int).Sub(x, y)},
			{"Sub turned", b.Sub(a), new(big.Int).Sub(y, x)},
			{"Neg", a.Neg(), new(big.Int).Neg(x)},
			{"Mul", a.Mul(b), new(big.Int).Mul(x, y)},
			{"Square", a.Square(), new(big.Int).Mul(x, x)},
			{"Times", a.Times(n), new(big.Int).Mul(x, big.NewInt(int64(n)))},
		} {
			if c.want.Mod(c.want, prime).Cmp(shown(c.got)) != 0 || !within(c.got) {
				t.Fatalf("%s of %x and %x (%d): %x", c.name, a.words, b.words, n, c.got.words)
			}
		}
	}
}

func TestMadeWithin(t *testing.T) {
	var all api.Key
	for i := range all {
		all[i] = 0xff
	}
	for _, a := range []Num{{}, Small(0), Small(1<<51 + 5), Small(1<<64 - 1), From(api.Key{}), From(all), unit} {
		if !within(a) {
			t.Errorf("the words %x", a.words)
		}
	}
}

func TestUnit(t *testing.T) {
	if !unit.Square().Equal(Small(1).Neg()) {
		t.Errorf("the square is %x", unit.Square().Bytes())
	}
}

package agree_test

import (
	"math"
	"strings"
	"testing"

	"pawl/agree"
	"pawl/api"
)

// P14.5, P14.7

// safety calls Safety of two keys in both orders, and holds the answers against the words and each other.
func safety(t *testing.T, a, b api.Key, rounds int) (string, api.Errno) {
	t.Helper()
	want, wantE := safetyByWords(a, b, rounds)
	got, e := agree.Safety(a, b, rounds)
	if got != want || e != wantE {
		t.Fatalf("Safety(%x, %x, %d): %q, %v, not %q, %v", a, b, rounds, got, e, want, wantE)
	}
	if turned, f := agree.Safety(b, a, rounds); turned != got || f != e {
		t.Fatalf("Safety(%x, %x, %d): %q, %v, the other way %q, %v", a, b, rounds, got, e, turned, f)
	}
	if e == api.OK {
		checkForm(t, got)
	}
	return got, e
}

// checkForm: twelve groups of five digits, with one blank between each two.
func checkForm(t *testing.T, s string) {
	t.Helper()
	if len(s) != 71 {
		t.Fatalf("%q has %d bytes", s, len(s))
	}
	for i := range len(s) {
		blank := i%6 == 5
		if blank != (s[i] == ' ') || !blank && (s[i] < '0' || s[i] > '9') {
			t.Fatalf("%q, at %d", s, i)
		}
	}
}

// Numbers that were reckoned apart; groups with zeros ahead among them.
func TestKnownSafety(t *testing.T) {
	own := api.Key(un("8f40c5adb68f25624ae5b214ea767a6ec94d829d3d7b5e1ad1ba6f3e2138285f"))
	other := api.Key(un("79a631eede1bf9c98f12032cdeadd0e7a079398fc786b88cc846ec89af85a51a"))
	almost := repeated(0xff)
	almost[0] = 0x7f
	for _, x := range []struct {
		a, b   api.Key
		rounds int
		want   string
	}{
		{api.Key{}, counted(0), 1, "47669 98559 03117 79673 69256 09771 76849 14326 92213 14510 40248 44096"},
		{api.Key{}, counted(0), 2, "60099 37589 89335 44492 35287 68442 76497 56316 33319 88154 54897 58155"},
		{api.Key{}, counted(0), 100, "68941 50254 20006 80810 14325 58996 73408 26932 00250 59977 11192 49768"},
		{api.Key{}, counted(0), 6000, "05485 59783 71083 87649 45016 96332 62245 02470 01879 92325 25107 58897"},
		{own, other, 1, "34388 73306 20594 92748 83554 32614 28105 79802 35034 27463 20343 85206"},
		{own, other, 2, "41335 38158 40300 04427 43844 86203 88048 68339 63997 57089 40197 99689"},
		{own, other, 100, "28628 76625 78211 00090 53938 17940 27927 87156 97159 39589 24690 99022"},
		{own, other, 6000, "02537 25478 33023 56513 61461 11849 96964 36355 19222 23566 72318 34826"},
		{repeated(0xff), almost, 1, "83324 88251 61033 72538 88669 70891 38757 15160 05986 90971 05194 77189"},
		{repeated(0xff), almost, 6000, "03077 23654 37356 33857 49113 03259 16343 32966 01321 28854 90262 33876"},
	} {
		if got, e := safety(t, x.a, x.b, x.rounds); e != api.OK || got != x.want {
			t.Errorf("Safety(%x, %x, %d): %q, %v, not %q", x.a, x.b, x.rounds, got, e, x.want)
		}
	}
	for k, want := range map[api.Key]string{
		{0x5b, 0xb9}: "00000 90735 77269 57918 95890 29073",
		{0x88, 0x01}: "07059 16507 08542 82288 08430 07801",
	} {
		if got, e := safety(t, k, k, 1); e != api.OK || got != want+" "+want {
			t.Errorf("Safety of %x: %q, %v", k, got, e)
		}
	}
}

// Example 3, and numbers of rounds that come to one within the bounds if bits or the sign are lost.
func TestSafetyRefuses(t *testing.T) {
	d := newDrawer(820)
	for _, rounds := range []int{0, -1, -2, -6000, -1<<16 + 1, -1<<32 + 1, math.MinInt, math.MinInt + 1,
		6001, 6002, 1<<13 + 1, 1<<16 + 1, 1<<31 - 1, 1<<32 + 1, 1<<32 + 6000, math.MaxInt - 1, math.MaxInt} {
		for _, same := range []bool{false, true} {
			a, b := d.key(), d.key()
			if same {
				b = a
			}
			if got, e := safety(t, a, b, rounds); e != api.ErrArg || got != "" {
				t.Errorf("Safety with %d rounds: %q, %v", rounds, got, e)
			}
		}
	}
}

func TestSafetyOfOneKey(t *testing.T) {
	d := newDrawer(821)
	for _, rounds := range []int{1, 2, 3, 100, 6000} {
		for _, a := range []api.Key{{}, repeated(0xff), d.key()} {
			if got, e := safety(t, a, a, rounds); e != api.OK || got[:35] != got[36:] {
				t.Errorf("Safety(%x twice, %d): %q, %v", a, rounds, got, e)
			}
		}
	}
}

// Every number of rounds up to a hundred, and those about its end.
func TestSafetyRounds(t *testing.T) {
	d := newDrawer(822)
	a, b := d.key(), d.key()
	seen := map[string]int{}
	hold := func(rounds int) {
		t.Helper()
		got, e := safety(t, a, b, rounds)
		if before, twice := seen[got]; e != api.OK || twice {
			t.Fatalf("%d rounds: %q, %v; as with %d", rounds, got, e, before)
		}
		seen[got] = rounds
	}
	for rounds := range 100 {
		hold(rounds + 1)
	}
	for _, rounds := range []int{127, 128, 255, 256, 257, 4095, 4096, 5998, 5999, 6000} {
		hold(rounds)
	}
}

// The lesser key comes first: the first byte in which they differ decides, as a number without a sign.
func TestSafetyOrder(t *testing.T) {
	d := newDrawer(823)
	first := func(lesser, greater api.Key) {
		t.Helper()
		got, e := safety(t, lesser, greater, 1)
		want := strings.Join(digitsByWords(lesser, 1), " ") + " " + strings.Join(digitsByWords(greater, 1), " ")
		if e != api.OK || got != want {
			t.Fatalf("of %x and %x: %q, %v, not %q", lesser, greater, got, e, want)
		}
	}
	for at := range 32 {
		for _, x := range [][2]byte{{0, 1}, {0, 0xff}, {0x7f, 0x80}, {0x7f, 0xff}, {0xfe, 0xff}, {1, 2}} {
			lesser := d.key()
			greater := lesser
			lesser[at], greater[at] = x[0], x[1]
			first(lesser, greater)
			for i := at + 1; i < 32; i++ { // what stands behind counts for nothing
				lesser[i], greater[i] = 0xff, 0
			}
			first(lesser, greater)
		}
	}
	first(api.Key{}, repeated(0xff))
	first(api.Key{31: 0xff}, api.Key{0: 1})
}

// Each bit of a key counts, those too that do not count where it is a public key.
func TestSafetyEachBit(t *testing.T) {
	d := newDrawer(824)
	a, b := d.key(), d.key()
	seen := map[string]int{}
	for bit := -1; bit < 256; bit++ {
		k := b
		if bit >= 0 {
			k[bit/8] ^= 1 << (bit % 8)
		}
		got, _ := safety(t, a, k, 2)
		if before, twice := seen[got]; twice {
			t.Errorf("the bits %d and %d: %q", before, bit, got)
		}
		seen[got] = bit
	}
}

func TestSafetyDrawn(t *testing.T) {
	d := newDrawer(825)
	for range 3000 {
		safety(t, d.key(), d.key(), 1+d.Intn(4))
	}
}

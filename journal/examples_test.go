package journal_test

import (
	"crypto/sha256"
	"encoding/hex"
	"slices"
	"strings"
	"testing"

	"pawl/api"
	"pawl/journal"
)

func unhex(t *testing.T, text string) []byte {
	t.Helper()
	b, err := hex.DecodeString(strings.ReplaceAll(text, " ", ""))
	if err != nil {
		t.Fatal(err)
	}
	return b
}

// Example 1.
func TestExampleOfOneRecord(t *testing.T) {
	s := journal.New()
	if string(s.Bytes()) != "PAWLJRN2" {
		t.Errorf("New: %q", s.Bytes())
	}
	if e := s.Apply([]api.Change{{Name: "a", Data: []byte("x")}}); e != api.OK {
		t.Fatal(e)
	}
	body := unhex(t, "0d 01 00 00 00 10 00 1a 09 08 0a 01 61 10 00 1a 01 78")
	first := sha256.Sum256([]byte("PAWLJRN2"))
	link := sha256.Sum256(slices.Concat(first[:], body))
	want := slices.Concat([]byte("PAWLJRN2"), []byte{0x12}, body, link[:16])
	if got := s.Bytes(); len(got) != 8+35 || !slices.Equal(got, want) {
		t.Errorf("%x, not %x", got, want)
	}
	if s.Head() != link {
		t.Errorf("%x, not %x", s.Head(), link)
	}
	if got, is := s.Get("a"); !is || string(got) != "x" {
		t.Errorf("Get: %q, %v", got, is)
	}
	if got := s.Names(); !slices.Equal(got, []string{"a"}) {
		t.Errorf("Names: %q", got)
	}
}

// Example 2.
func TestExampleOfDeletes(t *testing.T) {
	x := newBoth(t)
	x.answers("a", api.OK, put("a", "x"))
	x.answers("b is not there", api.ErrEntry, gone("b"))
	x.answers("gone twice", api.ErrEntry, gone("a"), gone("a"))
	if got := entriesOf(x.s); got != "a=x" {
		t.Error(got)
	}
	x.answers("gone and there again", api.OK, gone("a"), put("a", "y"))
	if got := entriesOf(x.s); got != "a=y" {
		t.Error(got)
	}
}

// Example 3.
func TestExampleOfTwoRecords(t *testing.T) {
	x := newBoth(t)
	var l []api.Change
	for _, r := range "abcdefghijklmnop" {
		l = append(l, put(string(r), ""))
	}
	x.answers("sixteen", api.OK, l...)
	b := x.s.Bytes()
	// Of each change 8 bytes; the body of the first has 129 bytes, and its number two.
	first := 8 + 2 + 129 + 16
	if x.w.records != 2 || len(b) != first+1+9+8+16 || b[8+2+6] != 1 || b[first+1+6] != 0 {
		t.Fatalf("%d bytes, %x", len(b), b)
	}
	opens(t, "behind the first", b[:first], 8, "")
	opens(t, "whole", b, len(b), "a= b= c= d= e= f= g= h= i= j= k= l= m= n= o= p=")
}

// Example 4.
func TestExampleOfTheElderFormat(t *testing.T) {
	sum := sha256.Sum256([]byte{1, 1, 0x61, 1, 0x78})
	b := slices.Concat([]byte("PAWLJRN1"), []byte{1, 1, 0x61, 1, 0x78}, sum[:4])
	opens(t, "a", b, 17, "a=x")
	for _, other := range []string{"PAWLJRN3", "PAWLJRN", "PAWLJRN3and more"} {
		if s, counts, e := journal.Open([]byte(other)); s != nil || counts != 0 || e != api.ErrJournal {
			t.Errorf("%q: %v, %d, %v", other, s, counts, e)
		}
	}
}

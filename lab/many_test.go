package lab_test

import (
	"slices"
	"strings"
	"sync"
	"testing"

	"pawl/api"
	"pawl/lab"
)

// P16.3 and P16.5

const mostLabs = 16

// checkMany holds Many against what Run answers to each text.
func checkMany(t *testing.T, texts []string) {
	t.Helper()
	was := slices.Clone(texts)
	got, why := lab.Many(texts)
	if why != api.OK || len(got) != len(texts) {
		t.Fatalf("Many of %d texts: %d traces, %v", len(texts), len(got), why)
	}
	for i, text := range was {
		want, err := lab.Run(text)
		if got[i] != want || err != nil && got[i] != "" {
			t.Fatalf("the text %d of %d: %q, not %q", i, len(texts), got[i], want)
		}
	}
	if !slices.Equal(texts, was) {
		t.Fatal("the texts have changed")
	}
}

func TestManyBounds(t *testing.T) {
	checkMany(t, nil)
	checkMany(t, []string{})
	for n := range mostLabs + 1 {
		texts := make([]string, n)
		for i := range texts {
			texts[i] = script("begin 1 5 9 s"+strings.Repeat("x", i)+" none", "look bob", "look alice")
		}
		checkMany(t, texts)
	}
	for _, n := range []int{mostLabs + 1, mostLabs + 2, 2 * mostLabs, 1000} {
		for _, text := range []string{"", begun, "wrong"} {
			texts := slices.Repeat([]string{text}, n)
			if got, why := lab.Many(texts); len(got) != 0 || why != api.ErrLong {
				t.Errorf("Many of %d texts: %d traces, %v", n, len(got), why)
			}
		}
	}
	checkMany(t, slices.Repeat([]string{script(begun, "bytes alice a 00", "give 1 bob", "export bob")}, mostLabs))
}

// Texts that Parse refuses have no trace, wherever they stand; the others have theirs.
func TestManyWithWrongOnes(t *testing.T) {
	d := newDrawer(1620)
	long := begun + strings.Repeat("\n", mostScript)
	for range 20 {
		var texts []string
		for range 1 + d.Intn(mostLabs) {
			texts = append(texts, d.one("", "# nothing", "wrong", begun, begun+"\nlook", begun+"\nsend bob a x", long, "look bob", script(d.script(12)...)))
		}
		checkMany(t, texts)
	}
	checkMany(t, []string{"wrong"})
	checkMany(t, slices.Repeat([]string{"wrong"}, mostLabs))
}

// Scripts of unlike lengths, so that they do not end in their order.
func TestManyUnlike(t *testing.T) {
	d := newDrawer(1621)
	for range 4 {
		var texts []string
		for i := range mostLabs {
			texts = append(texts, script(d.script(1+(mostLabs-i)*5)...))
		}
		checkMany(t, texts)
		slices.Reverse(texts)
		checkMany(t, texts)
	}
}

// P16.5: scripts of the same seeds and names, played side by side by several callers, each tell what they tell alone.
func TestSideBySide(t *testing.T) {
	d := newDrawer(1622)
	var texts, want []string
	for range mostLabs {
		lines := d.script(30)
		lines[0] = "begin 1 5 9 s none" // so that envelopes of one would be heard in another
		texts = append(texts, script(lines...))
	}
	for _, text := range texts {
		want = append(want, checkRun(t, text))
	}
	var callers sync.WaitGroup
	for range 4 {
		callers.Go(func() {
			if got, why := lab.Many(texts); why != api.OK || !slices.Equal(got, want) {
				t.Error("Many tells another trace where others play")
			}
		})
		callers.Go(func() {
			for i, text := range texts {
				if got, err := lab.Run(text); err != nil || got != want[i] {
					t.Error("Run tells another trace where others play")
				}
			}
		})
	}
	callers.Wait()
	got, _ := lab.Many(texts)
	got[0] = "changed"
	if again, _ := lab.Many(texts); !slices.Equal(again, want) {
		t.Error("an answer lies in the memory of another one")
	}
}

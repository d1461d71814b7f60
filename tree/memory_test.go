package tree_test

import (
	"bytes"
	"slices"
	"sync"
	"testing"

	"pawl/api"
	"pawl/tree"
)

// What is handed in is neither changed nor kept, and what is given is new memory, room too; two logs know nothing of one another.

// spoil overwrites a list, room too.
func spoil(l []api.Key) {
	l = l[:cap(l)]
	for i := range l {
		l[i] = api.Key{0xa5}
	}
}

// withRoom is a list as it is handed in, and all that it stands in.
func withRoom(l []api.Key) (handed, whole []api.Key) {
	whole = slices.Concat(drawnKeys(240, 3), l, drawnKeys(241, 40))
	return whole[3 : 3+len(l)], whole
}

func TestNothingIsChanged(t *testing.T) {
	leaves := drawnKeys(242, 13)
	for n := range leaves {
		handed, whole := withRoom(leaves[:n])
		was := slices.Clone(whole)
		tree.Root(handed)
		l := logOf(t, handed)
		for i, leaf := range leaves[n:] {
			if at, e := l.Append(leaf); at != n+i || e != api.OK {
				t.Fatalf("Append: %d, %v", at, e)
			}
		}
		if !slices.Equal(whole, was) {
			t.Fatalf("of %d: what was handed in has changed", n)
		}
		spoil(whole)
		checkLog(t, l, leaves)
	}
	l := logOf(t, leaves)
	for at := range leaves {
		path, wholePath := withRoom(pathOf(t, l, at, 13))
		growth, wholeGrowth := withRoom(growthOf(t, l, at, 13))
		wasPath, wasGrowth := slices.Clone(wholePath), slices.Clone(wholeGrowth)
		root := rootOf(t, l, 13)
		tree.Included(root, 13, at, leaves[at], path)
		tree.Included(root, 13, at, leaves[0], wholePath)
		tree.Grown(rootOf(t, l, at), at, root, 13, growth)
		tree.Grown(root, at, root, 13, wholeGrowth)
		if !slices.Equal(wholePath, wasPath) || !slices.Equal(wholeGrowth, wasGrowth) {
			t.Errorf("%d: a proof that was handed in has changed", at)
		}
	}
	text := bytes.Repeat([]byte{0xa5}, 200)
	for n := range 100 {
		tree.Leaf(text[3 : 3+n])
		if !bytes.Equal(text, bytes.Repeat([]byte{0xa5}, 200)) {
			t.Fatalf("Leaf of %d bytes: it has changed", n)
		}
	}
}

// TestNothingIsShared: answers may be overwritten, and neither the log nor another answer sees it.
func TestNothingIsShared(t *testing.T) {
	leaves := drawnKeys(243, 23)
	for n := 1; n <= len(leaves); n++ {
		l := logOf(t, leaves[:n])
		want := levelsOf(leaves[:n])
		first, second := l.Leaves(), l.Leaves()
		spoil(first)
		if !slices.Equal(second, leaves[:n]) {
			t.Fatalf("Leaves of %d changes with another answer", n)
		}
		for at := range n {
			path, other := pathOf(t, l, at, n), pathOf(t, l, at, n)
			growth, grown := growthOf(t, l, at, n), growthOf(t, l, at, n)
			spoil(path)
			spoil(growth)
			if !slices.Equal(other, want.path(at)) || !slices.Equal(grown, want.growth(at)) {
				t.Fatalf("%d of %d: a proof changes with another answer", at, n)
			}
		}
		checkLog(t, l, leaves[:n])
		l.Append(a)
		if !slices.Equal(second, leaves[:n]) || slices.Contains(second[:cap(second)], a) {
			t.Fatalf("Leaves of %d changes with the log", n)
		}
		spoil(second)
		checkLog(t, l, slices.Concat(leaves[:n], []api.Key{a}))
	}
}

// TestTwoLogs of one list go each its own way.
func TestTwoLogs(t *testing.T) {
	leaves := drawnKeys(244, 30)
	for n := range leaves {
		one := logOf(t, leaves[:n])
		two := logOf(t, one.Leaves())
		one.Append(a)
		two.Append(b)
		two.Append(c)
		checkLog(t, one, slices.Concat(leaves[:n], []api.Key{a}))
		checkLog(t, two, slices.Concat(leaves[:n], []api.Key{b, c}))
	}
	tree.New().Append(a)
	checkLog(t, tree.New(), nil)
}

// TestAtOnce: what is answered hangs on the arguments and the log alone, also beside other calls.
func TestAtOnce(t *testing.T) {
	shared := drawnKeys(245, 40)
	var all sync.WaitGroup
	for i := range 8 {
		all.Go(func() {
			l, e := tree.From(shared)
			own := drawnKeys(int64(250+i), 10)
			for _, leaf := range own {
				l.Append(leaf)
			}
			want := levelsOf(slices.Concat(shared, own))
			root, e2 := l.Root(50)
			path, e3 := l.Path(45, 50)
			growth, e4 := l.Growth(40, 50)
			if e != api.OK || e2 != api.OK || e3 != api.OK || e4 != api.OK {
				t.Errorf("number %d: %v, %v, %v, %v", i, e, e2, e3, e4)
			}
			if root != want.root() || !slices.Equal(path, want.path(45)) || !slices.Equal(growth, want.growth(40)) {
				t.Errorf("number %d: another answer", i)
			}
			if tree.Included(root, 50, 45, own[5], path) != api.OK || tree.Grown(tree.Root(shared), 40, root, 50, growth) != api.OK {
				t.Errorf("number %d: the proofs do not hold", i)
			}
		})
	}
	all.Wait()
}

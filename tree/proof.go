package tree

import "pawl/api"

// Included and Grown hold such proofs against roots.
func Included(root api.Key, n, at int, leaf api.Key, path []api.Key) api.Errno {
	if n < 1 || n > api.MaxLeaves || at < 0 || at >= n {
		return api.ErrLeaf
	}
	made, fits := along(path, n, at, leaf)
	if !fits || made != root {
		return api.ErrProof
	}
	return api.OK
}

func Grown(old api.Key, m int, root api.Key, n int, proof []api.Key) api.Errno {
	if n < 0 || n > api.MaxLeaves || m < 0 || m > n {
		return api.ErrLeaf
	}
	if m == 0 {
		return grownOfNone(old, root, n, proof)
	}
	was, is, fits := both(proof, m, n, true, old)
	if !fits || was != old || is != root {
		return api.ErrProof
	}
	return api.OK
}

// grownOfNone: every log grows of the empty one, so that of root nothing is known, unless it is the empty one's too.
func grownOfNone(old, root api.Key, n int, proof []api.Key) api.Errno {
	none := Root(nil)
	if len(proof) > 0 || old != none || n == 0 && root != none {
		return api.ErrProof
	}
	return api.OK
}

// path is that of a place among leaves, of which there is one at least.
func path(leaves []api.Key, at int) []api.Key {
	n := len(leaves)
	if n == 1 {
		return nil
	}
	k := cut(n)
	if at < k {
		return append(path(leaves[:k], at), Root(leaves[k:]))
	}
	return append(path(leaves[k:], at-k), Root(leaves[:k]))
}

// along is the root that a path makes of the leaf at a place among n, and whether it has just as many keys as it must have.
func along(path []api.Key, n, at int, leaf api.Key) (api.Key, bool) {
	last := len(path) - 1
	if n == 1 {
		return leaf, last < 0
	}
	if last < 0 {
		return api.Key{}, false
	}
	k := cut(n)
	if at < k {
		left, fits := along(path[:last], k, at, leaf)
		return Node(left, path[last]), fits
	}
	right, fits := along(path[:last], n-k, at-k, leaf)
	return Node(path[last], right), fits
}

// growth is the one from the first m of leaves to all of them; whole: these m are all that the old root is of, so that whoever holds it knows their root.
func growth(leaves []api.Key, m int, whole bool) []api.Key {
	n := len(leaves)
	if m == n && whole {
		return nil
	}
	if m == n {
		return []api.Key{Root(leaves)}
	}
	k := cut(n)
	if m <= k {
		return append(growth(leaves[:k], m, whole), Root(leaves[k:]))
	}
	return append(growth(leaves[k:], m-k, false), Root(leaves[:k]))
}

// both is the two roots that a growth from m to n makes, the old one and the new one, and whether it has just as many keys as it must have.
func both(proof []api.Key, m, n int, whole bool, old api.Key) (was, is api.Key, fits bool) {
	last := len(proof) - 1
	if m == n && whole {
		return old, old, last < 0
	}
	if last < 0 {
		return api.Key{}, api.Key{}, false
	}
	end := proof[last]
	if m == n {
		return end, end, last == 0
	}
	k := cut(n)
	if m <= k {
		was, is, fits = both(proof[:last], m, k, whole, old)
		return was, Node(is, end), fits
	}
	was, is, fits = both(proof[:last], m-k, n-k, false, old)
	return Node(end, was), Node(end, is), fits
}

package block

// state is a block on its way through the rounds of a cipher, and the round that it is in. A step leaves the state that it is called on, and gives the next.
type state struct {
	columns
	cipher *Cipher
	round  int
}

func (s state) keyed() state {
	for i, k := range s.cipher.keys[s.round] {
		s.columns[i] ^= k
	}
	return s
}

func (s state) subbed() state {
	for i, x := range s.columns {
		s.columns[i] = x.through(&s.cipher.sub)
	}
	return s
}

func (s state) unsubbed() state {
	for i, x := range s.columns {
		s.columns[i] = x.through(&s.cipher.back)
	}
	return s
}

// shifted takes row r of a column from the r-th one behind it, unshifted from the r-th one ahead.
func (s state) shifted() state {
	was := s.columns
	for i := range was {
		s.columns[i] = picked(turned(was, i))
	}
	return s
}

func (s state) unshifted() state {
	was := s.columns
	for i := range was {
		t := turned(was, i)
		s.columns[i] = picked([4]column{t[0], t[3], t[2], t[1]})
	}
	return s
}

// mixed asks for one product a byte: 2a ^ 3b ^ c ^ d is 2(a ^ b) ^ b ^ c ^ d.
func (s state) mixed() state {
	for i, x := range s.columns {
		s.columns[i] = (x ^ x.left(1)).twice() ^ x.left(1) ^ x.left(2) ^ x.left(3)
	}
	return s
}

// A column that is mixed four times is as it was.
func (s state) unmixed() state { return s.mixed().mixed().mixed() }

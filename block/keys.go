package block

import "pawl/api"

// keyColumns is how many columns the key itself is; the others follow from these.
const keyColumns = api.KeySize / 4

// Keys is the keys of the rounds.
func Keys(key api.Key) [15]Block {
	var keys [last + 1]Block
	for r, k := range New(key).keys {
		keys[r] = k.joined()
	}
	return keys
}

// roundKeys is the keys of the rounds, by a table of Sub.
func roundKeys(key api.Key, sub *[256]byte) [last + 1]columns {
	var w [4 * (last + 1)]column
	for i, x := range key {
		w[i/4] = w[i/4]<<8 | column(x)
	}
	mark := byte(1)
	for i := keyColumns; i < len(w); i++ {
		t := w[i-1]
		if i%keyColumns == 0 {
			t = t.left(1).through(sub) ^ column(mark)<<24
			mark = twice(mark)
		} else if i%4 == 0 {
			t = t.through(sub)
		}
		w[i] = w[i-keyColumns] ^ t
	}
	var keys [last + 1]columns
	for i, x := range w {
		keys[i/4][i%4] = x
	}
	return keys
}

package block

import "math/bits"

// fold is x^8 modulo the field's polynomial: what a bit that falls out is worth.
const fold = 0x1b

// Times is the product in the field of 256 elements; Sub the substitution of a byte, Back its inverse.
func Times(a, b byte) byte {
	var product byte
	for ; b != 0; b >>= 1 {
		if b&1 == 1 {
			product ^= a
		}
		a = twice(a)
	}
	return product
}

func Sub(x byte) byte {
	sub, _ := boxes()
	return sub[x]
}

func Back(x byte) byte {
	_, back := boxes()
	return back[x]
}

// twice is Times(2, a), without a look at whether a bit fell out.
func twice(a byte) byte { return a<<1 ^ a>>7*fold }

// boxes is Sub and Back of every byte.
func boxes() (sub, back [256]byte) {
	for x, inverse := range inverses() {
		s := spread(inverse)
		sub[x], back[s] = s, byte(x)
	}
	return sub, back
}

// inverses is that of every byte. The powers of 3 are all the bytes but 0, and the 255th is 1 again: two of them whose numbers make 255 are inverses.
func inverses() [256]byte {
	var powers, out [256]byte
	powers[0] = 1
	for i := range 255 {
		powers[i+1] = powers[i] ^ twice(powers[i])
	}
	for i, x := range powers {
		out[x] = powers[255-i]
	}
	return out
}

// spread is what Sub makes of the inverse.
func spread(y byte) byte {
	return y ^ bits.RotateLeft8(y, -4) ^ bits.RotateLeft8(y, -5) ^ bits.RotateLeft8(y, -6) ^ bits.RotateLeft8(y, -7) ^ 0x63
}

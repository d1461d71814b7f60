package block

import "math/bits"

// column is four bytes that lie one behind the other, as one word, the first the highest: so that a step turns four bytes at once.
type column uint32

// columns is a block's four.
type columns [4]column

// cut is a block as its columns.
func cut(b Block) columns {
	var c columns
	for i, x := range b {
		c[i/4] = c[i/4]<<8 | column(x)
	}
	return c
}

// joined is the block whose columns they are.
func (c columns) joined() Block {
	var b Block
	for i := range b {
		b[i] = byte(c[i/4] >> (24 - 8*(i%4)))
	}
	return b
}

// left is the column turned by n places: its first n bytes stand behind the others.
func (x column) left(n int) column { return column(bits.RotateLeft32(uint32(x), 8*n)) }

// twice has the double of each byte.
func (x column) twice() column { return (x&0x7f7f7f7f)<<1 ^ (x>>7&0x01010101)*fold }

// through has in the place of each byte what a table holds for it.
func (x column) through(table *[256]byte) column {
	return column(table[x>>24])<<24 | column(table[x>>16&0xff])<<16 | column(table[x>>8&0xff])<<8 | column(table[x&0xff])
}

// picked is the first byte of the first column, the second of the second, and so on.
func picked(c [4]column) column {
	return c[0]&0xff000000 | c[1]&0x00ff0000 | c[2]&0x0000ff00 | c[3]&0x000000ff
}

// turned is four things turned by n places to the left.
func turned[T any](a [4]T, n int) [4]T {
	var out [4]T
	for i := range out {
		out[i] = a[(i+n)%4]
	}
	return out
}

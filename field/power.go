package field

// unit is a number whose square is -1 (2 to the power of (P - 1) / 4): it turns a root of -a into one of a.
var unit = Num{[count]uint64{0x61b274a0ea0b0, 0x0d5a5fc8f189d, 0x7ef5e9cbd0c60, 0x78595a6804c9e, 0x2b8324804fc1d}}

// Power is a to the power of the number whose bytes, lowest first, e are. The product is made for every bit, also where the bit is 0, so that the work hangs on the length of e alone.
func (a Num) Power(e []byte) Num {
	r := Small(1)
	for i := range e {
		b := e[len(e)-1-i]
		for j := range 8 {
			r = r.Square()
			r, _ = Swap(r, r.Mul(a), b>>(7-j)&1 == 1)
		}
	}
	return r
}

// Invert is the number that gives 1 with a, of 0 it is 0: a to the power of P - 2 = 2^255 - 21 = 32 (2^250 - 1) + 11.
func (a Num) Invert() Num {
	tall, eleven := a.climb()
	return tall.squares(5).Mul(eleven)
}

// Root is the even number whose square is a, and whether there is one. If so, a to the power of (P + 3) / 8 = 2^252 - 2 = 4 (2^250 - 1) + 2 is a root of a or of -a.
func (a Num) Root() (Num, bool) {
	tall, _ := a.climb()
	r := tall.squares(2).Mul(a.Square())
	if !r.Square().Equal(a) {
		r = r.Mul(unit)
	}
	if !r.Square().Equal(a) {
		return Num{}, false
	}
	r, _ = Swap(r, r.Neg(), r.Odd())
	return r, true
}

// climb is a to the power of 2^250 - 1, and of 11, which it comes by on the way: each step doubles how many ones the power has, or adds some to them.
func (a Num) climb() (tall, eleven Num) {
	two := a.Square()
	nine := two.squares(2).Mul(a)
	eleven = nine.Mul(two)
	ones5 := eleven.Square().Mul(nine)
	ones10 := ones5.squares(5).Mul(ones5)
	ones20 := ones10.squares(10).Mul(ones10)
	ones40 := ones20.squares(20).Mul(ones20)
	ones50 := ones40.squares(10).Mul(ones10)
	ones100 := ones50.squares(50).Mul(ones50)
	ones200 := ones100.squares(100).Mul(ones100)
	return ones200.squares(50).Mul(ones50), eleven
}

// squares squares a so many times.
func (a Num) squares(times int) Num {
	for range times {
		a = a.Square()
	}
	return a
}

package content_test

import (
	"math"
	"math/big"
	"sync"
	"testing"

	"pawl/api"
	"pawl/content"
)

const (
	mostSteps = 1800000000
	inDegree  = 10000000
)

// nearestByWords is the whole number nearest to x times 10^7, by exact numbers; of two as near the even one.
func nearestByWords(x float64) int64 {
	product := exact(x)
	product.Mul(product, big.NewRat(inDegree, 1))
	twice := product.Add(product, product)
	// floor(2p) tells p's floor, and on which side of its middle p lies.
	floor := new(big.Int).Div(twice.Num(), twice.Denom()).Int64()
	n, upper := floor>>1, floor&1 == 1
	if upper && (!twice.IsInt() || n&1 == 1) {
		n++
	}
	return n
}

// checkSteps holds Steps of x against the words, and against Steps of -x (P9.10).
func checkSteps(t *testing.T, x float64) {
	t.Helper()
	want, why := int32(0), api.ErrPlace
	if x >= -180 && x <= 180 {
		want, why = int32(nearestByWords(x)), api.OK
	}
	if n, e := content.Steps(x); n != want || e != why {
		t.Fatalf("Steps(%v): %d, %v, not %d, %v", x, n, e, want, why)
	}
	if n, e := content.Steps(-x); n != -want || e != why {
		t.Fatalf("Steps(%v): %d, %v, not %d, %v", -x, n, e, -want, why)
	}
}

// checkDegrees holds Degrees of n against the words, and Steps of that against n (P9.10).
func checkDegrees(t *testing.T, n int32) {
	t.Helper()
	want, _ := big.NewRat(int64(n), inDegree).Float64()
	x := content.Degrees(n)
	if math.Float64bits(x) != math.Float64bits(want) {
		t.Fatalf("Degrees(%d): %v, not %v", n, x, want)
	}
	if n >= -mostSteps && n <= mostSteps {
		if back, e := content.Steps(x); back != n || e != api.OK {
			t.Fatalf("Steps(Degrees(%d)): %d, %v", n, back, e)
		}
	} else if back, e := content.Steps(x); back != 0 || e != api.ErrPlace {
		t.Fatalf("Steps(Degrees(%d)): %d, %v, not ErrPlace", n, back, e)
	}
}

// P9.6, and P9.10's first.

func TestDegrees(t *testing.T) {
	for _, x := range []struct {
		n int32
		d float64
	}{{0, 0}, {-1, -1e-07}, {1, 1e-7}, {525000000, 52.5}, {mostSteps, 180}, {-mostSteps, -180}, {math.MaxInt32, 214.7483647}, {math.MinInt32, -214.7483648}, {3, 3e-7}, {123456789, 12.3456789}} {
		if got := content.Degrees(x.n); got != x.d {
			t.Errorf("Degrees(%d): %v, not %v", x.n, got, x.d)
		}
	}
	for n := range int32(20000) {
		for _, from := range []int32{0, mostSteps - 10000, math.MaxInt32 - 20000} {
			checkDegrees(t, from+n)
			checkDegrees(t, -from-n)
		}
	}
	checkDegrees(t, math.MaxInt32)
	checkDegrees(t, math.MinInt32)
	for i := range 31 {
		for off := int32(-2); off <= 2; off++ {
			checkDegrees(t, 1<<i+off)
			checkDegrees(t, -1<<i-off)
		}
	}
	d := newDrawer(309)
	for range 100000 {
		checkDegrees(t, int32(d.Uint32())>>d.Intn(31))
	}
}

// Every number of steps on the earth, there and back.
func TestStepsOfAllDegrees(t *testing.T) {
	const shares = 16
	var all sync.WaitGroup
	for i := range shares {
		all.Go(func() {
			for n := -mostSteps + i; n <= mostSteps; n += shares {
				if back, e := content.Steps(content.Degrees(int32(n))); back != int32(n) || e != api.OK {
					t.Errorf("Steps(Degrees(%d)): %d, %v", n, back, e)
					return
				}
			}
		})
	}
	all.Wait()
}

// P9.7

// Example 4, and the bounds.
func TestSteps(t *testing.T) {
	for _, x := range []struct {
		d float64
		n int32
		e api.Errno
	}{
		{52.5, 525000000, api.OK}, {180.00000001, 0, api.ErrPlace}, {0.00000004, 0, api.OK}, {0.00000006, 1, api.OK}, {-0.00000006, -1, api.OK},
		{0, 0, api.OK}, {math.Copysign(0, -1), 0, api.OK}, {180, mostSteps, api.OK}, {-180, -mostSteps, api.OK}, {1, inDegree, api.OK},
		{math.Nextafter(180, 0), mostSteps, api.OK}, {math.Nextafter(180, 181), 0, api.ErrPlace}, {math.Nextafter(-180, -181), 0, api.ErrPlace}, {-181, 0, api.ErrPlace}, {1e9, 0, api.ErrPlace}, {math.MaxFloat64, 0, api.ErrPlace}, {-math.MaxFloat64, 0, api.ErrPlace},
		{math.NaN(), 0, api.ErrPlace}, {math.Float64frombits(0x7ff0000000000001), 0, api.ErrPlace}, {math.Float64frombits(1<<64 - 1), 0, api.ErrPlace}, {math.Inf(1), 0, api.ErrPlace}, {math.Inf(-1), 0, api.ErrPlace},
		{math.SmallestNonzeroFloat64, 0, api.OK}, {0x1p-1022, 0, api.OK}, {0x1p-60, 0, api.OK},
		// Of two as near the even one: a 256th is 39062.5 steps.
		{1. / 256, 39062, api.OK}, {3. / 256, 117188, api.OK}, {-1. / 256, -39062, api.OK}, {-3. / 256, -117188, api.OK},
	} {
		if n, e := content.Steps(x.d); n != x.n || e != x.e {
			t.Errorf("Steps(%v): %d, %v, not %d, %v", x.d, n, e, x.n, x.e)
		}
		if !math.IsNaN(x.d) && !math.IsInf(x.d, 0) {
			checkSteps(t, x.d)
		}
	}
}

// Every odd number of 256ths lies just between two steps; its neighbours do not.
func TestStepsAtHalves(t *testing.T) {
	for n := 1; n <= 180*256; n += 2 {
		x := float64(n) / 256
		checkSteps(t, x)
		checkSteps(t, math.Nextafter(x, 0))
		checkSteps(t, math.Nextafter(x, 200))
	}
}

// Floats as near to a half as can be. A product that is rounded ahead would be a half of some of them, and then go to the wrong side.
func TestStepsNearHalves(t *testing.T) {
	d := newDrawer(310)
	astray := 0
	for i := range 60000 {
		n := d.Int63n(mostSteps >> d.Intn(31))
		x, _ := big.NewRat(2*n+1, 2*inDegree).Float64()
		if i%3 > 0 {
			x = math.Nextafter(x, []float64{0, 200}[i%3-1])
		}
		checkSteps(t, x)
		if product := float64(x * inDegree); int64(math.RoundToEven(product)) != nearestByWords(x) {
			astray++
		}
	}
	if astray < 100 {
		t.Errorf("only %d would go astray", astray)
	}
}

func TestStepsOfDrawn(t *testing.T) {
	d := newDrawer(311)
	for range 60000 {
		checkSteps(t, d.float(180))
		checkSteps(t, d.float(200))
		x := math.Float64frombits(d.Uint64())
		if !math.IsNaN(x) && !math.IsInf(x, 0) {
			checkSteps(t, x)
		}
	}
}

// P9.10's last: of two degrees the greater one's Steps is not the smaller one.
func TestStepsKeepTheOrder(t *testing.T) {
	d := newDrawer(312)
	hold := func(x, y float64) {
		x, y = min(x, y), max(x, y)
		a, _ := content.Steps(x)
		b, _ := content.Steps(y)
		if a > b {
			t.Fatalf("Steps(%v): %d, Steps(%v): %d", x, a, y, b)
		}
	}
	for range 100000 {
		x := d.float(180)
		hold(x, d.float(180))
		hold(x, math.Nextafter(x, 0))
		hold(x, x*(1-1e-12))
	}
}

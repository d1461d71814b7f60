package content

import (
	"math"

	"pawl/api"
)

const stepsInDegree = 1e7

// onEarth tells whether x is a Lat or Long: from -most to most (which what is not a number is not), and not -0.
func onEarth(x, most float64) bool {
	return math.Abs(x) <= most && !(x == 0 && math.Signbit(x))
}

// Degrees is a number of steps of a ten millionth degree as degrees; Steps is the nearest number of steps of degrees.
func Degrees(steps int32) float64 { return float64(steps) / stepsInDegree }

func Steps(degrees float64) (int32, api.Errno) {
	if !(math.Abs(degrees) <= mostLong) { // asked so that what is not a number is refused too
		return 0, api.ErrPlace
	}
	// From 2^52 to 2^53 the floats are just the whole numbers: added to one in their midst, the exact product is rounded once, and to the nearest of them, of two as near the even one.
	const whole = 3 << 51
	return int32(math.FMA(degrees, stepsInDegree, whole) - whole), api.OK
}

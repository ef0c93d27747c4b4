// Package toll is layer 1: what work on a flash memory costs, as one complex number.
package toll

// most is the greatest part of a toll. It lies so far below 2^53 that the sum of two parts is exact.
const most = 1 << 40

// mostTimes is the greatest factor of Times.
const mostTimes = 1 << 20

// Of makes a toll of a number of erases and a number of programs.
func Of(erases, programs int) (complex128, bool) {
	if erases < 0 || erases > most || programs < 0 || programs > most {
		return 0, false
	}
	return complex(float64(erases), float64(programs)), true
}

// Sum adds the tolls of l, each part up to 2^40; what is no toll is passed over.
func Sum(l ...complex128) complex128 {
	var sum complex128
	for _, c := range l {
		if valid(c) {
			// Tolls only add: capping at each step answers what capping at the end would, and stays exact.
			sum = capped(sum + c)
		}
	}
	return sum
}

// Times multiplies a toll by n.
func Times(c complex128, n int) (complex128, bool) {
	if !valid(c) || n < 0 || n > mostTimes {
		return 0, false
	}
	// A product above 2^53 may be rounded, but never down to 2^40 or below.
	erases, programs, ok := Parts(c * complex(float64(n), 0))
	if !ok {
		return 0, false
	}
	return Of(erases, programs)
}

// Parts tells the number of erases and the number of programs of a toll.
func Parts(c complex128) (int, int, bool) {
	if !within(real(c)) || !within(imag(c)) {
		return 0, 0, false
	}
	erases, programs := int(real(c)), int(imag(c))
	if complex(float64(erases), float64(programs)) != c {
		return 0, 0, false
	}
	return erases, programs, true
}

// Fits tells whether the toll c is within the toll room, part by part.
func Fits(c, room complex128) bool {
	return valid(c) && valid(room) && real(c) <= real(room) && imag(c) <= imag(room)
}

func valid(c complex128) bool {
	_, _, ok := Parts(c)
	return ok
}

// within is false for NaN too, which no comparison holds for.
func within(part float64) bool {
	return part >= 0 && part <= most
}

func capped(c complex128) complex128 {
	return complex(min(real(c), most), min(imag(c), most))
}

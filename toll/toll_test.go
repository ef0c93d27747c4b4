package toll

import (
	"math"
	"testing"
)

// notTolls are complex numbers that are no tolls, each with one wrong part.
func notTolls() []complex128 {
	wrong := []float64{
		-1, -0.5, 0.5, 1.25, most - 0.5, most + 0.5, most + 1, 2 * most, 1 << 62, 1 << 63, 1 << 64, -(1 << 63),
		math.SmallestNonzeroFloat64, -math.SmallestNonzeroFloat64, math.MaxFloat64, -math.MaxFloat64,
		math.NaN(), math.Inf(1), math.Inf(-1),
	}
	var l []complex128
	for _, x := range wrong {
		l = append(l, complex(x, 0), complex(0, x), complex(x, most), complex(7, x), complex(x, x))
	}
	return l
}

func TestOf(t *testing.T) {
	for _, x := range []struct {
		erases, programs int
		ok               bool
	}{
		{2, 3, true},
		{0, 0, true},
		{1, 0, true},
		{0, 1, true},
		{most, 0, true},
		{0, most, true},
		{most, most, true},
		{most - 1, most - 2, true},
		{most + 1, 0, false},
		{0, most + 1, false},
		{most + 1, most + 1, false},
		{-1, 0, false},
		{0, -1, false},
		{-1, -1, false},
		{-most, 5, false},
		{5, -most, false},
		{math.MinInt, 1, false},
		{1, math.MinInt, false},
		{math.MaxInt, 1, false},
		{1, math.MaxInt, false},
	} {
		c, ok := Of(x.erases, x.programs)
		var want complex128
		if x.ok {
			want = complex(float64(x.erases), float64(x.programs))
		}
		if c != want || ok != x.ok {
			t.Errorf("P101: Of(%d, %d): %v, %v", x.erases, x.programs, c, ok)
		}
	}
}

func TestSum(t *testing.T) {
	for i, x := range []struct {
		l    []complex128
		want complex128
	}{
		{nil, 0},
		{[]complex128{}, 0},
		{[]complex128{0}, 0},
		{[]complex128{2 + 3i}, 2 + 3i},
		{[]complex128{1 + 2i, 3 + 4i}, 4 + 6i},
		{[]complex128{3 + 4i, 1 + 2i, 5, 7i}, 9 + 13i},
		{[]complex128{most - 1, 1}, most},
		{[]complex128{most - 1, 2}, most},
		{[]complex128{complex(0, most-1), 1i}, complex(0, most)},
		{[]complex128{complex(0, most-1), 2i}, complex(0, most)},
		{[]complex128{complex(most, 5), complex(7, most)}, complex(most, most)},
		{[]complex128{complex(most, 1), complex(most, 2), complex(most, 3)}, complex(most, 6)},
		{[]complex128{complex(1, most), complex(2, most), complex(3, most)}, complex(6, most)},
		{[]complex128{complex(most, most), 0}, complex(most, most)},
	} {
		if got := Sum(x.l...); got != x.want {
			t.Errorf("P101: Sum %d: %v, want %v", i, got, x.want)
		}
	}
}

func TestSumOfMany(t *testing.T) {
	l := make([]complex128, 100000)
	for i := range l {
		l[i] = 3 + 5i
	}
	if got := Sum(l...); got != 300000+500000i {
		t.Errorf("P101: %v", got)
	}
	for i := range l {
		l[i] = complex(most-1, 1)
	}
	if got := Sum(l...); got != complex(most, 100000) {
		t.Errorf("P101: %v", got)
	}
}

func TestSumPassesOverWhatIsNoToll(t *testing.T) {
	if got := Sum(notTolls()...); got != 0 {
		t.Errorf("P101: %v", got)
	}
	for _, c := range notTolls() {
		if got := Sum(c); got != 0 {
			t.Errorf("P101: Sum(%v): %v", c, got)
		}
		if got := Sum(c, 2+1i, c, 3+4i, c); got != 5+5i {
			t.Errorf("P101: Sum with %v: %v", c, got)
		}
	}
}

func TestTimes(t *testing.T) {
	for _, x := range []struct {
		c    complex128
		n    int
		want complex128
		ok   bool
	}{
		{2 + 3i, 4, 8 + 12i, true},
		{2 + 3i, 1, 2 + 3i, true},
		{2 + 3i, 0, 0, true},
		{0, 0, 0, true},
		{0, 1 << 20, 0, true},
		{3 + 5i, 1 << 20, complex(3<<20, 5<<20), true},
		{complex(most, most), 0, 0, true},
		{complex(most, most), 1, complex(most, most), true},
		{complex(most, 0), 2, 0, false},
		{complex(0, most), 2, 0, false},
		{complex(most, most), 1 << 20, 0, false},
		{complex(1<<20, 1), 1 << 20, complex(most, 1<<20), true},
		{complex(1, 1<<20), 1 << 20, complex(1<<20, most), true},
		{complex(1<<20+1, 1), 1 << 20, 0, false},
		{complex(1, 1<<20+1), 1 << 20, 0, false},
		{complex(4278255361, 1), 257, 0, false}, // 2^40 + 1
		{complex(1, 4278255361), 257, 0, false},
		{complex(4278255361, 3), 256, complex(4278255361*256, 768), true},
		{2 + 3i, -1, 0, false},
		{0, -1, 0, false},
		{2 + 3i, 1 << 20, complex(2<<20, 3<<20), true},
		{2 + 3i, 1<<20 + 1, 0, false},
		{0, 1<<20 + 1, 0, false},
		{0, math.MaxInt, 0, false},
		{0, math.MinInt, 0, false},
	} {
		if c, ok := Times(x.c, x.n); c != x.want || ok != x.ok {
			t.Errorf("P101: Times(%v, %d): %v, %v", x.c, x.n, c, ok)
		}
	}
}

func TestTimesOfWhatIsNoToll(t *testing.T) {
	for _, c := range notTolls() {
		for _, n := range []int{-1, 0, 1, 2, 4, 1 << 20, 1<<20 + 1} {
			if got, ok := Times(c, n); got != 0 || ok {
				t.Errorf("P101: Times(%v, %d): %v, %v", c, n, got, ok)
			}
		}
	}
}

func TestParts(t *testing.T) {
	negativeZero := math.Copysign(0, -1)
	for _, x := range []struct {
		c                complex128
		erases, programs int
	}{
		{2 + 3i, 2, 3},
		{0, 0, 0},
		{1, 1, 0},
		{1i, 0, 1},
		{most, most, 0},
		{complex(0, most), 0, most},
		{complex(most, most), most, most},
		{complex(most-1, most-2), most - 1, most - 2},
		{complex(negativeZero, 4), 0, 4},
		{complex(4, negativeZero), 4, 0},
	} {
		if erases, programs, ok := Parts(x.c); erases != x.erases || programs != x.programs || !ok {
			t.Errorf("P101: Parts(%v): %d, %d, %v", x.c, erases, programs, ok)
		}
	}
	for _, c := range notTolls() {
		if erases, programs, ok := Parts(c); erases != 0 || programs != 0 || ok {
			t.Errorf("P101: Parts(%v): %d, %d, %v", c, erases, programs, ok)
		}
	}
}

func TestPartsOfWhatOfMade(t *testing.T) {
	l := []int{0, 1, 2, 3, 1<<20 - 1, 1 << 20, 1<<31 - 1, 1 << 32, most - 1, most}
	for _, e := range l {
		for _, p := range l {
			c, _ := Of(e, p)
			if erases, programs, ok := Parts(c); erases != e || programs != p || !ok {
				t.Errorf("P101: Parts of Of(%d, %d): %d, %d, %v", e, p, erases, programs, ok)
			}
		}
	}
}

func TestFits(t *testing.T) {
	for _, x := range []struct {
		c, room complex128
		ok      bool
	}{
		{2 + 3i, 3 + 2i, false},
		{3 + 2i, 2 + 3i, false},
		{2 + 3i, 2 + 3i, true},
		{2 + 3i, 3 + 4i, true},
		{2 + 3i, 3 + 3i, true},
		{2 + 3i, 2 + 4i, true},
		{3 + 4i, 2 + 3i, false},
		{3 + 3i, 2 + 3i, false},
		{2 + 4i, 2 + 3i, false},
		{0, 0, true},
		{0, complex(most, most), true},
		{complex(most, most), complex(most, most), true},
		{complex(most, most), complex(most, most-1), false},
		{complex(most, most), complex(most-1, most), false},
		{1 + 1i, 0, false},
	} {
		if Fits(x.c, x.room) != x.ok {
			t.Errorf("P101: Fits(%v, %v): %v", x.c, x.room, !x.ok)
		}
	}
	for _, c := range notTolls() {
		if Fits(c, complex(most, most)) || Fits(0, c) || Fits(c, c) {
			t.Errorf("P101: Fits with %v", c)
		}
	}
}

func TestSumLeavesItsArguments(t *testing.T) {
	all := []complex128{complex(most, 1), -1, complex(7, most), 0.5, 9 + 9i, 8 + 8i}
	kept := append([]complex128(nil), all...)
	if got := Sum(all[:4]...); got != complex(most, most) {
		t.Errorf("P102: %v", got)
	}
	for i, c := range kept {
		if all[i] != c {
			t.Errorf("P102: element %d: %v, was %v", i, all[i], c)
		}
	}
}

func TestAnswersHangOnArgumentsOnly(t *testing.T) {
	for range 3 {
		made, _ := Of(2, 3)
		times, _ := Times(2+3i, 4)
		erases, programs, ok := Parts(2 + 3i)
		if made != 2+3i || times != 8+12i || Sum(1+2i, 3+4i) != 4+6i || erases != 2 || programs != 3 || !ok || !Fits(1, 2) {
			t.Error("P102: another answer to the same arguments")
		}
		// Calls that fail or reach the limit must leave nothing behind for the next round.
		Of(-1, most+1)
		Times(complex(most, most), 1<<20)
		Sum(complex(most, most), complex(most, most), -1)
		Parts(0.5)
		Fits(3, -1)
	}
}

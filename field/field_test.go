package field

import (
	"math/big"
	"math/rand/v2"
	"sync"
	"testing"

	"portcullis/api"
)

// prime is p, made by another arithmetic than the one that is tested.
func prime() *big.Int {
	p := new(big.Int).Lsh(big.NewInt(1), 255)
	return p.Sub(p, big.NewInt(19))
}

func bigOf(a api.Num) *big.Int {
	var high [32]byte
	for i, b := range a {
		high[31-i] = b
	}
	return new(big.Int).SetBytes(high[:])
}

// num is a number below 2^256, not reduced.
func num(n *big.Int) api.Num {
	var high [32]byte
	var a api.Num
	n.FillBytes(high[:])
	for i, b := range high {
		a[31-i] = b
	}
	return a
}

// modulo is the answer that n asks for.
func modulo(n *big.Int) api.Num { return num(new(big.Int).Mod(n, prime())) }

func small(n int64) api.Num { return num(big.NewInt(n)) }

// aboveP is p + n, for an n from -p to 2^255 + 18.
func aboveP(n int64) api.Num { return num(new(big.Int).Add(prime(), big.NewInt(n))) }

// power is 2^n + more.
func power(n uint, more int64) api.Num {
	x := new(big.Int).Lsh(big.NewInt(1), n)
	return num(x.Add(x, big.NewInt(more)))
}

// edges are the numbers around which an arithmetic modulo p may go wrong.
func edges() []api.Num {
	l := []api.Num{}
	for n := range int64(45) {
		l = append(l, small(n), aboveP(n), aboveP(-n-1), power(256, -n-1))
	}
	for n := int64(-20); n <= 20; n++ {
		double := new(big.Int).Lsh(prime(), 1)
		l = append(l, power(255, n), num(double.Add(double, big.NewInt(n))))
	}
	for n := uint(8); n < 256; n++ {
		l = append(l, power(n, 0), power(n, -1))
	}
	return l
}

// some are drawn numbers, always the same ones. Every other one is made of runs of equal bits, which carry far.
func some(n int) []api.Num {
	draw := rand.New(rand.NewPCG(3, 255))
	l := make([]api.Num, n)
	for i := range l {
		run := 1
		bit := byte(0)
		for at := range 256 {
			if run--; run == 0 {
				run = 1
				bit = byte(draw.IntN(2))
				if i%2 == 1 {
					run = 1 + draw.IntN(70)
				}
			}
			l[i][at/8] |= bit << (at % 8)
		}
	}
	return l
}

func TestCanon(t *testing.T) {
	for _, x := range []struct{ a, want api.Num }{
		{small(0), small(0)},
		{small(1), small(1)},
		{small(256), api.Num{0, 1}},
		{aboveP(-1), aboveP(-1)},
		{aboveP(0), small(0)},
		{aboveP(1), small(1)},
		{aboveP(18), small(18)}, // 2^255 - 1
		{aboveP(19), small(19)}, // 2^255
		{num(new(big.Int).Add(prime(), bigOf(aboveP(-1)))), aboveP(-1)}, // 2 p - 1
		{num(new(big.Int).Add(prime(), prime())), small(0)},
		{power(256, -38), small(0)},
		{power(256, -37), small(1)},
		{power(256, -1), small(37)},
		{api.Num{31: 0x80}, small(19)},
	} {
		if got := Canon(x.a); got != x.want {
			t.Errorf("P301: Canon(%x): %x", x.a, got)
		}
	}
	for _, a := range append(edges(), some(2000)...) {
		if got := Canon(a); got != modulo(bigOf(a)) {
			t.Errorf("P301: Canon(%x): %x", a, got)
		}
	}
}

// sums holds the answers to two numbers against the other arithmetic's.
func sums(t *testing.T, a, b api.Num) {
	t.Helper()
	x, y := bigOf(a), bigOf(b)
	if got := Add(a, b); got != modulo(new(big.Int).Add(x, y)) {
		t.Fatalf("P301: Add(%x, %x): %x", a, b, got)
	}
	if got := Sub(a, b); got != modulo(new(big.Int).Sub(x, y)) {
		t.Fatalf("P301: Sub(%x, %x): %x", a, b, got)
	}
	if got := Mul(a, b); got != modulo(new(big.Int).Mul(x, y)) {
		t.Fatalf("P301: Mul(%x, %x): %x", a, b, got)
	}
}

func TestAddSubMulByHand(t *testing.T) {
	minus := aboveP(-1)
	for _, x := range []struct{ got, want api.Num }{
		{Add(minus, small(2)), small(1)},
		{Add(minus, small(1)), small(0)},
		{Add(minus, small(0)), minus},
		{Add(minus, minus), aboveP(-2)},
		{Add(aboveP(0), aboveP(0)), small(0)},
		{Add(power(256, -1), power(256, -1)), small(74)},
		{Add(small(200), small(100)), api.Num{44, 1}},
		{Sub(small(5), small(3)), small(2)},
		{Sub(small(3), small(5)), aboveP(-2)},
		{Sub(small(0), small(1)), minus},
		{Sub(small(0), small(0)), small(0)},
		{Sub(small(0), aboveP(0)), small(0)},
		{Sub(small(0), power(256, -1)), aboveP(-37)},
		{Sub(power(256, -1), small(38)), minus},
		{Mul(minus, minus), small(1)},
		{Mul(minus, small(1)), minus},
		{Mul(minus, small(0)), small(0)},
		{Mul(aboveP(0), power(256, -1)), small(0)},
		{Mul(power(255, 0), power(255, 0)), small(361)},
		{Mul(power(128, 0), power(127, 0)), small(19)},
		{Mul(power(256, -1), power(256, -1)), small(37 * 37)},
		{Mul(small(200), small(100)), api.Num{0x20, 0x4e}},
	} {
		if x.got != x.want {
			t.Errorf("P301: %x, want %x", x.got, x.want)
		}
	}
}

func TestAddSubMul(t *testing.T) {
	l := edges()
	for _, a := range l {
		for i := 0; i < len(l); i += 5 {
			sums(t, a, l[i])
			sums(t, l[i], a)
		}
		sums(t, a, a)
	}
	drawn := some(6000)
	for i, a := range drawn {
		sums(t, a, drawn[len(drawn)-1-i])
		sums(t, a, drawn[i/2])
		sums(t, a, l[i%len(l)])
	}
}

// valueOf is the number that limbs stand for, however full they are.
func valueOf(x limbs) *big.Int {
	sum := new(big.Int)
	for i := len(x) - 1; i >= 0; i-- {
		sum.Lsh(sum, width)
		sum.Add(sum, new(big.Int).SetUint64(x[i]))
	}
	return sum
}

// The calls answer right only because no limb overflows inside: limbs as full as they may be show that.
func TestFullLimbs(t *testing.T) {
	kinds := []uint64{0, 1, full, full + 1, full + 1<<18, 1<<54 - 1}
	var l []limbs
	for _, a := range kinds {
		for _, b := range kinds {
			for _, c := range kinds {
				l = append(l, limbs{a, b, c, a, b}, limbs{a, a, b, b, c}, limbs{c, a, a, a, a})
			}
		}
	}
	for i, x := range l {
		for _, y := range []limbs{x, l[len(l)-1-i], l[(i*7)%len(l)]} {
			product := times(x, y)
			if numOf(product) != modulo(new(big.Int).Mul(valueOf(x), valueOf(y))) {
				t.Fatalf("P301: %x times %x: %x", x, y, product)
			}
			for _, limb := range product {
				if limb >= 1<<51+1<<18 {
					t.Fatalf("P301: %x times %x: %x is too full", x, y, product)
				}
			}
		}
	}
	for _, x := range []limbs{{1<<64 - 1, 1<<64 - 1, 1<<64 - 1, 1<<64 - 1, 1<<64 - 1}, {0, 0, 0, 0, 1<<64 - 1}, {1<<64 - 1}} {
		if got := numOf(x); got != modulo(valueOf(x)) {
			t.Errorf("P301: numOf(%x): %x", x, got)
		}
	}
}

func TestInv(t *testing.T) {
	for _, zero := range []api.Num{small(0), aboveP(0), power(256, -38)} {
		if got := Inv(zero); got != small(0) {
			t.Errorf("P301: Inv(%x): %x", zero, got)
		}
	}
	for _, x := range []struct{ a, want api.Num }{
		{small(1), small(1)},
		{aboveP(1), small(1)},
		{aboveP(-1), aboveP(-1)},
		{small(2), power(254, -9)}, // (p + 1) / 2
	} {
		if got := Inv(x.a); got != x.want {
			t.Errorf("P301: Inv(%x): %x", x.a, got)
		}
	}
	for _, a := range append(edges(), some(300)...) {
		want := new(big.Int).ModInverse(bigOf(a), prime())
		if want == nil {
			want = big.NewInt(0)
		}
		if got := Inv(a); got != num(want) {
			t.Errorf("P301: Inv(%x): %x", a, got)
		}
	}
}

func TestPow(t *testing.T) {
	for _, x := range []struct{ a, e, want api.Num }{
		{small(0), small(0), small(1)},
		{aboveP(0), small(0), small(1)},
		{power(256, -38), small(0), small(1)},
		{small(5), small(0), small(1)},
		{small(0), small(1), small(0)},
		{small(0), aboveP(-1), small(0)}, // the exponent is not reduced: not by p - 1
		{small(0), aboveP(0), small(0)},  // and not by p
		{aboveP(0), power(255, 0), small(0)},
		{small(0), power(256, -1), small(0)},
		{small(3), small(5), small(243)},
		{small(5), small(3), small(125)},
		{small(2), small(255), small(19)},
		{small(2), small(256), small(38)},
		{small(7), small(1), small(7)},
		{aboveP(7), small(1), small(7)},
		{aboveP(-1), small(2), small(1)},
		{aboveP(-1), small(3), aboveP(-1)},
		{small(2), aboveP(-1), small(1)},
		{small(2), aboveP(0), small(2)},
		{small(2), aboveP(1), small(4)},
		{small(2), power(255, 0), power(20, 0)},  // p - 1 + 20
		{small(2), power(256, -1), power(39, 0)}, // 2 (p - 1) + 39
	} {
		if got := Pow(x.a, x.e); got != x.want {
			t.Errorf("P301: Pow(%x, %x): %x", x.a, x.e, got)
		}
	}
	for i := range uint(256) { // each bit of the exponent, by itself
		want := new(big.Int).Exp(big.NewInt(3), bigOf(power(i, 0)), prime())
		if got := Pow(small(3), power(i, 0)); got != num(want) {
			t.Errorf("P301: Pow(3, 2^%d): %x", i, got)
		}
	}
}

func TestPowOfMany(t *testing.T) {
	l, drawn := edges(), some(600)
	for i, e := range drawn {
		for _, x := range [][2]api.Num{{drawn[len(drawn)-1-i], e}, {l[i%len(l)], e}, {e, l[(i*7)%len(l)]}} {
			want := new(big.Int).Exp(bigOf(x[0]), bigOf(x[1]), prime())
			if got := Pow(x[0], x[1]); got != num(want) {
				t.Errorf("P301: Pow(%x, %x): %x", x[0], x[1], got)
			}
		}
	}
}

// root holds Root of a against what a root is.
func root(t *testing.T, a api.Num) {
	t.Helper()
	x := new(big.Int).Mod(bigOf(a), prime())
	want := new(big.Int).ModSqrt(x, prime())
	got, ok := Root(a)
	if want == nil {
		if ok || got != small(0) {
			t.Errorf("P301: Root(%x): %x, %v, but there is none", a, got, ok)
		}
		return
	}
	if want.Bit(0) == 1 {
		want.Sub(prime(), want)
	}
	if !ok || got != num(want) {
		t.Errorf("P301: Root(%x): %x, %v", a, got, ok)
	}
}

func TestRootByHand(t *testing.T) {
	for _, x := range []struct {
		a, want api.Num
		ok      bool
	}{
		{small(0), small(0), true},
		{aboveP(0), small(0), true},
		{power(256, -38), small(0), true},
		{small(1), aboveP(-1), true}, // the even one of 1 and p - 1
		{aboveP(1), aboveP(-1), true},
		{power(256, -37), aboveP(-1), true},
		{small(4), small(2), true},
		{aboveP(4), small(2), true},
		{small(9), aboveP(-3), true},
		{small(16), small(4), true},
		{small(25), aboveP(-5), true},
		{power(254, 0), num(new(big.Int).Lsh(big.NewInt(1), 127)), true},
		{small(2), small(0), false},
		{small(6), small(0), false},
		{small(7), small(0), false},
		{aboveP(2), small(0), false},
		{aboveP(-2), small(0), false},
		{small(8), small(0), false},
	} {
		if got, ok := Root(x.a); got != x.want || ok != x.ok {
			t.Errorf("P301: Root(%x): %x, %v", x.a, got, ok)
		}
	}
	if got, ok := Root(aboveP(-1)); !ok || got[0]&1 == 1 || Mul(got, got) != aboveP(-1) {
		t.Errorf("P301: Root(p - 1): %x, %v", got, ok)
	}
}

func TestRoot(t *testing.T) {
	for _, a := range append(edges(), some(500)...) {
		root(t, a)
		square := Mul(a, a)
		root(t, square)
		root(t, Sub(small(0), square)) // -1 is a square too
		root(t, Mul(small(2), square)) // and 2 is none
		root(t, Sub(small(0), Mul(small(2), square)))
	}
}

func TestPick(t *testing.T) {
	l := append(edges(), some(500)...)
	for i, a := range l {
		b := l[len(l)-1-i]
		if got := Pick(a, b, false); got != a {
			t.Errorf("P301: Pick(%x, %x, false): %x", a, b, got)
		}
		if got := Pick(a, b, true); got != b {
			t.Errorf("P301: Pick(%x, %x, true): %x", a, b, got)
		}
		if Pick(a, a, false) != a || Pick(a, a, true) != a {
			t.Errorf("P301: Pick of twice %x", a)
		}
	}
	// None of these is reduced, and all bits differ.
	high, low := power(256, -1), small(0)
	if Pick(high, low, false) != high || Pick(low, high, true) != high || Pick(high, low, true) != low || Pick(low, high, false) != low {
		t.Error("P301: Pick of what is not reduced")
	}
	if Pick(aboveP(0), aboveP(1), false) != aboveP(0) || Pick(aboveP(0), aboveP(1), true) != aboveP(1) {
		t.Error("P301: Pick of p and p + 1")
	}
}

// answers are what all functions tell of two numbers.
type answers struct {
	canon, add, sub, mul, inv, pow, root, pick api.Num
	ok                                         bool
}

func all(a, b api.Num) answers {
	r := answers{canon: Canon(a), add: Add(a, b), sub: Sub(a, b), mul: Mul(a, b), inv: Inv(a), pow: Pow(a, b), pick: Pick(a, b, b[0]&1 == 1)}
	r.root, r.ok = Root(a)
	return r
}

func TestAnswersHangOnArgumentsOnly(t *testing.T) {
	l := some(40)
	var first []answers
	for i := range l {
		first = append(first, all(l[i], l[len(l)-1-i]))
	}
	var wait sync.WaitGroup
	again := make([]answers, len(l))
	for i := range l {
		wait.Go(func() { again[i] = all(l[i], l[len(l)-1-i]) })
	}
	wait.Wait()
	for i := range l {
		if again[i] != first[i] {
			t.Errorf("P302: another answer to the same arguments: %x", l[i])
		}
	}
	for i, a := range some(40) {
		if l[i] != a {
			t.Errorf("P302: an argument was changed: %x", l[i])
		}
	}
}

func TestAnswersAreApart(t *testing.T) {
	a, b := power(256, -1), small(7)
	one := Pick(a, b, false)
	one[0], one[31] = 1, 2
	two := Canon(b)
	two[0] = 9
	if a != power(256, -1) || b != small(7) || Pick(a, b, false) != a || Canon(b) != b {
		t.Errorf("P302: %x, %x", a, b)
	}
}

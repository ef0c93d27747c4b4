package scalar

import (
	"bytes"
	"encoding/hex"
	"math/big"
	"math/rand/v2"
	"slices"
	"sync"
	"testing"

	"portcullis/api"
)

// order is q as the chapter writes it, made by another arithmetic than the one that is tested.
func order() *big.Int {
	low, _ := new(big.Int).SetString("27742317777372353535851937790883648493", 10)
	return low.Add(low, power(252))
}

func power(n uint) *big.Int { return new(big.Int).Lsh(big.NewInt(1), n) }

func plus(a *big.Int, n int64) *big.Int { return new(big.Int).Add(a, big.NewInt(n)) }

// valueOf is what b stands for in little-endian order.
func valueOf(b []byte) *big.Int {
	high := slices.Clone(b)
	slices.Reverse(high)
	return new(big.Int).SetBytes(high)
}

// bytesOf is n in so many bytes, in little-endian order.
func bytesOf(n *big.Int, size int) []byte {
	b := n.FillBytes(make([]byte, size))
	slices.Reverse(b)
	return b
}

func num(n *big.Int) api.Num { return api.Num(bytesOf(n, 32)) }

func small(n int64) api.Num { return num(big.NewInt(n)) }

// byOrder is q + n.
func byOrder(n int64) api.Num { return num(plus(order(), n)) }

// modulo is the answer that n asks for.
func modulo(n *big.Int) api.Num { return num(new(big.Int).Mod(n, order())) }

// near are the numbers about n, as far as they have no more than so many bits and are not below 0.
func near(n *big.Int, width int) []*big.Int {
	var l []*big.Int
	for d := int64(-3); d <= 3; d++ {
		if x := plus(n, d); x.Sign() >= 0 && x.BitLen() <= width {
			l = append(l, x)
		}
	}
	return l
}

// edges are the numbers of at most so many bits around which an arithmetic modulo q may go wrong.
func edges(width int) []*big.Int {
	q := order()
	most := plus(power(uint(width)), -1)
	times, _ := new(big.Int).QuoRem(most, q, new(big.Int))
	l := near(new(big.Int).Mul(times, q), width)
	l = append(l, near(most, width)...)
	for n := range int64(20) {
		l = append(l, near(new(big.Int).Mul(big.NewInt(n), q), width)...)
		l = append(l, near(new(big.Int).Mul(big.NewInt(n), power(252)), width)...)
	}
	for n := range uint(width) {
		l = append(l, near(power(n), width)...)
		l = append(l, near(new(big.Int).Mul(power(n), q), width)...)
		l = append(l, near(new(big.Int).Rsh(most, n), width)...)
		l = append(l, near(new(big.Int).Rsh(new(big.Int).Mul(times, q), n), width)...)
	}
	return l
}

// some are drawn byte strings, always the same ones. In every other one most bytes are 0 or 255, which carry far.
func some(count, size int) [][]byte {
	draw := rand.New(rand.NewPCG(4, 252))
	l := make([][]byte, count)
	for i := range l {
		l[i] = make([]byte, size)
		for k := range l[i] {
			l[i][k] = byte(draw.IntN(256))
			if i%2 == 1 && draw.IntN(8) > 0 {
				l[i][k] = byte(-draw.IntN(2))
			}
		}
	}
	return l
}

// nums are edges and drawn numbers of 256 bits.
func nums(drawn int) []api.Num {
	var l []api.Num
	for _, n := range edges(256) {
		l = append(l, num(n))
	}
	for _, b := range some(drawn, 32) {
		l = append(l, api.Num(b))
	}
	return l
}

// of reads a number of 32 bytes, written with the lowest byte first.
func of(t *testing.T, text string) api.Num {
	t.Helper()
	b, err := hex.DecodeString(text)
	if err != nil || len(b) != 32 {
		t.Fatal(text)
	}
	return api.Num(b)
}

func TestReduceByHand(t *testing.T) {
	q := of(t, "edd3f55c1a631258d69cf7a2def9de1400000000000000000000000000000010")
	if q != byOrder(0) {
		t.Fatalf("%x", q)
	}
	for _, x := range []struct {
		b    []byte
		want api.Num
	}{
		{nil, small(0)},
		{[]byte{}, small(0)},
		{[]byte{0}, small(0)},
		{[]byte{5}, small(5)},
		{[]byte{0, 1}, small(256)},
		{[]byte{1, 2, 3, 0}, small(0x030201)},
		{make([]byte, 64), small(0)},
		{make([]byte, 1000), small(0)},
		{q[:], small(0)},
		{bytesOf(plus(order(), 1), 32), small(1)},
		{bytesOf(plus(order(), -1), 32), byOrder(-1)},
		{bytesOf(power(252), 32), num(power(252))},
		{bytesOf(plus(power(252), -1), 32), num(plus(power(252), -1))},
		{bytesOf(power(256), 33), of(t, "1d95988d7431ecd670cf7d73f45befc6feffffffffffffffffffffffffffff0f")},
		{bytesOf(power(256), 64), of(t, "1d95988d7431ecd670cf7d73f45befc6feffffffffffffffffffffffffffff0f")},
		{bytesOf(plus(power(512), -1), 64), of(t, "000f9c44e31106a447938568a71b0ed065bef517d273ecce3d9a307c1b419903")},
	} {
		if got := Reduce(x.b); got != x.want {
			t.Errorf("P401: Reduce(%x): %x", x.b, got)
		}
	}
}

func TestReduce(t *testing.T) {
	for _, n := range edges(512) {
		if got := Reduce(bytesOf(n, 64)); got != modulo(n) {
			t.Errorf("P401: Reduce of %x: %x", n, got)
		}
	}
	for _, b := range some(20000, 64) {
		if got := Reduce(b); got != modulo(valueOf(b)) {
			t.Errorf("P401: Reduce(%x): %x", b, got)
		}
	}
}

func TestReduceOfAnyLength(t *testing.T) {
	full := bytes.Repeat([]byte{255}, 200)
	for n := range 200 {
		last := make([]byte, n+1)
		last[n] = 1
		for _, b := range append(some(10, n), full[:n], last) {
			if got := Reduce(b); got != modulo(valueOf(b[:min(len(b), 64)])) {
				t.Errorf("P401: Reduce of %d bytes, %x: %x", len(b), b, got)
			}
		}
	}
	for _, b := range some(50, 64) {
		for _, more := range [][]byte{{1}, {0}, full, b} {
			if got := Reduce(append(slices.Clone(b), more...)); got != Reduce(b) {
				t.Errorf("P401: Reduce(%x) and more bytes: %x", b, got)
			}
		}
	}
}

func TestAddMulByHand(t *testing.T) {
	minus, all := byOrder(-1), num(plus(power(256), -1))
	for i, x := range []struct{ got, want api.Num }{
		{Add(small(0), small(0)), small(0)},
		{Add(small(2), small(3)), small(5)},
		{Add(small(200), small(100)), api.Num{44, 1}},
		{Add(minus, byOrder(0)), minus},
		{Add(byOrder(0), minus), minus},
		{Add(minus, small(1)), small(0)},
		{Add(minus, small(2)), small(1)},
		{Add(minus, minus), byOrder(-2)},
		{Add(byOrder(0), byOrder(0)), small(0)},
		{Add(num(power(252)), small(0)), num(power(252))},
		{Add(num(plus(power(252), -1)), small(1)), num(power(252))},
		{Add(num(power(255)), num(power(255))), of(t, "1d95988d7431ecd670cf7d73f45befc6feffffffffffffffffffffffffffff0f")},
		{Add(all, small(1)), of(t, "1d95988d7431ecd670cf7d73f45befc6feffffffffffffffffffffffffffff0f")},
		{Mul(small(0), all), small(0)},
		{Mul(all, byOrder(0)), small(0)},
		{Mul(small(7), small(1)), small(7)},
		{Mul(small(200), small(100)), api.Num{0x20, 0x4e}},
		{Mul(byOrder(7), byOrder(11)), small(77)},
		{Mul(minus, minus), small(1)},
		{Mul(minus, small(1)), minus},
		{Mul(minus, small(2)), byOrder(-2)},
		{Mul(num(power(128)), num(power(128))), of(t, "1d95988d7431ecd670cf7d73f45befc6feffffffffffffffffffffffffffff0f")},
	} {
		if x.got != x.want {
			t.Errorf("P401: %d: %x, want %x", i, x.got, x.want)
		}
	}
}

// both holds the answers to two numbers against the other arithmetic's.
func both(t *testing.T, a, b api.Num) {
	t.Helper()
	x, y := valueOf(a[:]), valueOf(b[:])
	if got := Add(a, b); got != modulo(new(big.Int).Add(x, y)) {
		t.Fatalf("P401: Add(%x, %x): %x", a, b, got)
	}
	if got := Mul(a, b); got != modulo(new(big.Int).Mul(x, y)) {
		t.Fatalf("P401: Mul(%x, %x): %x", a, b, got)
	}
}

func TestAddMul(t *testing.T) {
	l := nums(3000)
	others := []api.Num{small(0), small(1), small(2), byOrder(-1), byOrder(0), byOrder(1), num(power(252)), num(power(255)), num(plus(power(256), -1))}
	for i, a := range l {
		for _, b := range others {
			both(t, a, b)
			both(t, b, a)
		}
		both(t, a, a)
		for n := 1; n < 6; n++ {
			both(t, a, l[(i*7+n*311)%len(l)])
		}
	}
}

// toSmall finds, for an odd a, a b of at most 256 bits for which a b is, modulo 2^28 q, a number near 0: by Euclid's
// algorithm, stopped when b is short enough.
func toSmall(a *big.Int) *big.Int {
	most := new(big.Int).Lsh(order(), width)
	b := new(big.Int).ModInverse(a, most)
	before := most
	for b.BitLen() > 256 {
		before, b = b, new(big.Int).Mod(before, b)
	}
	return b
}

// Hardly any drawn numbers have such a product, but if a limb was too full when the limbs above went off, here it shows.
func TestMulToSmall(t *testing.T) {
	for _, b := range some(300, 32) {
		b[0] |= 1
		a := api.Num(b)
		both(t, a, num(toSmall(valueOf(b))))
		inverse := new(big.Int).ModInverse(valueOf(b), order())
		for n := int64(-3); n <= 3; n++ {
			times := new(big.Int).Mul(inverse, big.NewInt(n))
			if got := Mul(a, modulo(times)); got != modulo(big.NewInt(n)) {
				t.Errorf("P401: Mul(%x, %x): %x, want %d", a, modulo(times), got, n)
			}
		}
	}
}

func TestLess(t *testing.T) {
	for _, x := range []struct {
		a  api.Num
		ok bool
	}{
		{small(0), true},
		{small(1), true},
		{num(plus(power(252), -1)), true},
		{num(power(252)), true},
		{byOrder(-2), true},
		{byOrder(-1), true},
		{byOrder(0), false},
		{byOrder(1), false},
		{num(new(big.Int).Lsh(order(), 1)), false},
		{num(new(big.Int).Mul(order(), big.NewInt(15))), false},
		{num(power(253)), false},
		{num(power(255)), false},
		{num(plus(power(256), -1)), false},
		{api.Num{0: 255, 31: 0x0f}, true},
		{api.Num{0: 0xec, 31: 0x10}, true},
		{api.Num{16: 1, 31: 0x10}, false}, // its lowest 16 bytes are below those of q
		{api.Num{31: 0x20}, false},
	} {
		if Less(x.a) != x.ok {
			t.Errorf("P401: Less(%x): %v", x.a, !x.ok)
		}
	}
	for _, a := range nums(2000) {
		if want := valueOf(a[:]).Cmp(order()) < 0; Less(a) != want {
			t.Errorf("P401: Less(%x): %v", a, !want)
		}
	}
	// Each byte of q by itself makes the difference.
	for i := range 32 {
		for d := 1; d < 256; d++ {
			a := byOrder(0)
			a[i] += byte(d)
			if want := valueOf(a[:]).Cmp(order()) < 0; Less(a) != want {
				t.Errorf("P401: Less(%x): %v", a, !want)
			}
		}
	}
}

// The calls answer right only because no limb overflows inside: limbs as full as they come show that.
func TestLimbs(t *testing.T) {
	for _, b := range append(some(2000, 64), bytes.Repeat([]byte{255}, 64)) {
		x := limbsOf(b)
		sum := new(big.Int)
		for i := len(x) - 1; i >= 0; i-- {
			if x[i] < 0 || x[i] > full {
				t.Fatalf("P401: %x: limb %d is %x", b, i, x[i])
			}
			sum.Add(sum.Lsh(sum, width), big.NewInt(x[i]))
		}
		if sum.Cmp(valueOf(b)) != 0 {
			t.Fatalf("P401: %x: %x", b, x)
		}
		r := rest(x)
		for i, limb := range r {
			if limb < 0 || limb > full+1 || limb > full && i != above-1 || i >= above && limb != 0 {
				t.Fatalf("P401: the rest of %x: limb %d is %x", b, i, limb)
			}
		}
	}
}

func TestReduceLeavesItsArgument(t *testing.T) {
	for _, n := range []int{0, 1, 32, 63, 64, 65, 100} {
		room := some(1, 150)[0]
		kept := slices.Clone(room)
		first := Reduce(room[:n])
		first[0]++
		if !bytes.Equal(room, kept) {
			t.Errorf("P402: of %d bytes, an argument was changed", n)
		}
		second := Reduce(room[:n])
		answer := second
		clear(room)
		if second != answer || Reduce(kept[:n]) != answer {
			t.Errorf("P402: of %d bytes, the answer was not kept apart", n)
		}
	}
}

// answers are what all functions tell of two numbers.
type answers struct {
	reduce, add, mul api.Num
	less             bool
}

func all(a, b api.Num) answers {
	return answers{Reduce(append(a[:], b[:]...)), Add(a, b), Mul(a, b), Less(a)}
}

func TestAnswersHangOnArgumentsOnly(t *testing.T) {
	l := nums(50)
	kept := slices.Clone(l)
	first, again := make([]answers, len(l)), make([]answers, len(l))
	for i, a := range l {
		first[i] = all(a, l[len(l)-1-i])
	}
	var wait sync.WaitGroup
	for i, a := range l {
		wait.Go(func() { again[i] = all(a, l[len(l)-1-i]) })
	}
	wait.Wait()
	if !slices.Equal(first, again) {
		t.Error("P402: another answer to the same arguments")
	}
	if !slices.Equal(l, kept) {
		t.Error("P402: an argument was changed")
	}
}

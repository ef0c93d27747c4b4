package ladder

import (
	"crypto/ecdh"
	"encoding/hex"
	"math/big"
	"math/rand/v2"
	"slices"
	"sync"
	"testing"

	"portcullis/api"
)

// drawn is a number, always the same one for the same seed.
func drawn(seed uint64) api.Num {
	var a api.Num
	draw := rand.New(rand.NewPCG(12, seed))
	for i := range a {
		a[i] = byte(draw.Uint32())
	}
	return a
}

func unhex(t *testing.T, text string) api.Num {
	t.Helper()
	b, err := hex.DecodeString(text)
	if err != nil || len(b) != 32 {
		t.Fatalf("%q: %v", text, err)
	}
	return api.Num(b)
}

func turned(a api.Num, bit int) api.Num {
	a[bit/8] ^= 1 << (bit % 8)
	return a
}

func prime() *big.Int { return plus(power(255), -19) }

func power(n uint) *big.Int { return new(big.Int).Lsh(big.NewInt(1), n) }

func plus(a *big.Int, n int64) *big.Int { return new(big.Int).Add(a, big.NewInt(n)) }

// num is a number below 2^256, not reduced.
func num(n *big.Int) api.Num {
	var a api.Num
	n.FillBytes(a[:])
	slices.Reverse(a[:])
	return a
}

func bigOf(a api.Num) *big.Int {
	slices.Reverse(a[:])
	return new(big.Int).SetBytes(a[:])
}

// each calls f with all numbers below n, at once, because one multiplication takes long.
func each(n int, f func(i int)) {
	var wait sync.WaitGroup
	next := make(chan int)
	for range 8 {
		wait.Go(func() {
			for i := range next {
				f(i)
			}
		})
	}
	for i := range n {
		next <- i
	}
	close(next)
	wait.Wait()
}

// another is the product that the library's X25519 answers, or 0 where it answers none.
func another(t *testing.T, k, u api.Num) api.Num {
	t.Helper()
	private, e1 := ecdh.X25519().NewPrivateKey(k[:])
	public, e2 := ecdh.X25519().NewPublicKey(u[:])
	if e1 != nil || e2 != nil {
		t.Errorf("the library takes no %x and %x: %v, %v", k, u, e1, e2)
		return api.Num{}
	}
	b, err := private.ECDH(public)
	if err != nil {
		return api.Num{}
	}
	return api.Num(b)
}

// multiplies holds Mul and Shared against want.
func multiplies(t *testing.T, what string, k, u, want api.Num) {
	t.Helper()
	if got := Mul(k, u); got != want {
		t.Errorf("P1201: %s: Mul(%x, %x): %x, want %x", what, k, u, got, want)
	}
	shares(t, what, k, u, want)
}

// shares holds Shared against want, where 0 asks for an error.
func shares(t *testing.T, what string, k, u, want api.Num) {
	t.Helper()
	wanted := api.OK
	if want == (api.Num{}) {
		wanted = api.ErrKey
	}
	if got, e := Shared(k, u); got != want || e != wanted {
		t.Errorf("P1201: %s: Shared(%x, %x): %x, %d, want %x, %d", what, k, u, got, e, want, wanted)
	}
}

// curve is B v^2 = u^3 + 486662 u^2 + u, by another arithmetic and other formulas than those that are tested: so that
// there is a point for each u, B is 1 or, where 1 gives none, 2.
type curve struct{ p, b *big.Int }

// spot is a point of a curve; nil is the zero of the group.
type spot struct{ u, v *big.Int }

// over is n / d.
func (c curve) over(n, d *big.Int) *big.Int {
	n = new(big.Int).Mul(n, new(big.Int).ModInverse(new(big.Int).Mod(d, c.p), c.p))
	return n.Mod(n, c.p)
}

// of is a curve with a point that has that u, and the point.
func of(u *big.Int) (curve, *spot) {
	c := curve{prime(), big.NewInt(1)}
	right := new(big.Int).Mul(u, plus(new(big.Int).Mul(u, plus(u, 486662)), 1))
	v := new(big.Int).ModSqrt(right.Mod(right, c.p), c.p)
	if v == nil {
		c.b = big.NewInt(2)
		v = new(big.Int).ModSqrt(c.over(right, c.b), c.p)
	}
	return c, &spot{new(big.Int).Mod(u, c.p), v}
}

// slope is that of the line through two points of which none is nil, or nil where it stands upright.
func (c curve) slope(a, b *spot) *big.Int {
	if a.u.Cmp(b.u) != 0 {
		return c.over(new(big.Int).Sub(b.v, a.v), new(big.Int).Sub(b.u, a.u))
	}
	if a.v.Cmp(b.v) != 0 || a.v.Sign() == 0 {
		return nil
	}
	rise := new(big.Int).Mul(a.u, big.NewInt(3))
	rise = plus(rise.Mul(rise.Add(rise, big.NewInt(2*486662)), a.u), 1)
	run := new(big.Int).Mul(big.NewInt(2), c.b)
	return c.over(rise, run.Mul(run, a.v))
}

func (c curve) add(a, b *spot) *spot {
	if a == nil {
		return b
	}
	if b == nil {
		return a
	}
	slope := c.slope(a, b)
	if slope == nil {
		return nil
	}
	u := new(big.Int).Mul(slope, slope)
	u = plus(u.Mul(u, c.b), -486662)
	u.Sub(u, a.u).Sub(u, b.u).Mod(u, c.p)
	v := new(big.Int).Sub(a.u, u)
	v.Mul(v, slope).Sub(v, a.v).Mod(v, c.p)
	return &spot{u, v}
}

// ruled is what Mul answers, as the RFC tells it: k, clamped, times a point with that u.
func ruled(k, u api.Num) api.Num {
	n, x := bigOf(k), bigOf(u)
	for bit, value := range map[int]uint{0: 0, 1: 0, 2: 0, 254: 1, 255: 0} {
		n.SetBit(n, bit, value)
	}
	c, a := of(x.SetBit(x, 255, 0))
	var product *spot
	for bit := 255; bit >= 0; bit-- {
		product = c.add(product, product)
		if n.Bit(bit) == 1 {
			product = c.add(product, a)
		}
	}
	if product == nil {
		return api.Num{}
	}
	return num(product.u)
}

// The examples of RFC 7748, section 5.2.
func TestMulByHand(t *testing.T) {
	for _, x := range []struct{ k, u, want string }{
		{
			"a546e36bf0527c9d3b16154b82465edd62144c0ac1fc5a18506a2244ba449ac4",
			"e6db6867583030db3594c1a424b15f7c726624ec26b3353b10a903a6d0ab1c4c",
			"c3da55379de9c6908e94ea4df28d084f32eccf03491c71f754b4075577a28552",
		},
		{ // with the highest bit of u set
			"4b66e9d4d1b4673c5ad22691957d6af5c11b6421e0ea01d42ca4169e7918ba0d",
			"e5210f12786811d3f4b7959d0538ae2c31dbe7106fc03c3efc4cd549c715a493",
			"95cbde9476e8907d7aade45cb4b873f88b595a68799fa152e6f8f7647aac7957",
		},
	} {
		k, u, want := unhex(t, x.k), unhex(t, x.u), unhex(t, x.want)
		multiplies(t, "the RFC's example", k, u, want)
		if ruled(k, u) != want || another(t, k, u) != want {
			t.Errorf("the rules of this test: %x, %x", ruled(k, u), another(t, k, u))
		}
	}
	for k, want := range map[api.Num]string{ // the least number that is clamped, and the greatest
		{}:                        "2fe57da347cd62431528daac5fbb290730fff684afc4cfc2ed90995f58cb3b74",
		num(plus(power(255), -1)): "847c0d2c375234f365e660955187a3735a0f7613d1609d3a6a4d8c53aeaa5a22",
	} {
		multiplies(t, "k at an edge", k, api.Num{9}, unhex(t, want))
	}
}

// The examples of section 5.2 that go on and on, up to a thousand times.
func TestMulManyTimes(t *testing.T) {
	k, u := api.Num{9}, api.Num{9}
	for i := range 1000 {
		k, u = Mul(k, u), k
		if i == 0 && k != unhex(t, "422c8e7a6227d7bca1350b3e2bb7279f7897b87bb6854b783c60e80311ae3079") {
			t.Fatalf("P1201: after one time: %x", k)
		}
	}
	if k != unhex(t, "684cf59ba83309552800ef566f2f4d3c1c3887c49360e3875f2eb94d99532c51") {
		t.Errorf("P1201: after a thousand times: %x", k)
	}
}

// The example of section 6.1.
func TestSharedByHand(t *testing.T) {
	a := unhex(t, "77076d0a7318a57d3c16c17251b26645df4c2f87ebc0992ab177fba51db92c2a")
	b := unhex(t, "5dab087e624a8a4b79e17f8b83800ee66f3bb1292618b6fd1c2f8b27ff88e0eb")
	publicA := unhex(t, "8520f0098930a754748b7ddcb43ef75a0dbf3a0d26381af4eba4a98eaa9b4e6a")
	publicB := unhex(t, "de9edb7d7b7dc1b4d35b61c2ece435373f8343c85b78674dadfc7e146f882b4f")
	want := unhex(t, "4a5d9d5ba4ce2de1728e3bf480350f25e07e21c947d19e3376f09b3c1e161742")
	if Public(a) != publicA || Public(b) != publicB {
		t.Errorf("P1201: Public: %x and %x", Public(a), Public(b))
	}
	multiplies(t, "the RFC's example", a, publicB, want)
	multiplies(t, "the RFC's example", b, publicA, want)
}

// edges are numbers at which a k or a u may go wrong, up to 2^256 - 1.
func edges() []api.Num {
	var l []api.Num
	double := new(big.Int).Lsh(prime(), 1)
	for n := range int64(21) {
		l = append(l, num(big.NewInt(n)), num(plus(prime(), n-20)), num(plus(prime(), n)), num(plus(power(255), n)))
		l = append(l, num(plus(double, n)), num(plus(double, -n-1)), num(plus(power(256), -n-1)), num(plus(power(254), n)))
	}
	for n := uint(5); n < 256; n += 10 {
		l = append(l, num(power(n)), num(plus(power(n), -1)))
	}
	for _, u := range known() {
		l = append(l, u, turned(u, 255))
	}
	return l
}

func TestMulOfEdges(t *testing.T) {
	l := edges()
	each(len(l), func(i int) {
		for _, x := range [][2]api.Num{{drawn(uint64(i)), l[i]}, {l[i], drawn(uint64(i))}, {l[i], l[len(l)-1-i]}} {
			multiplies(t, "an edge", x[0], x[1], another(t, x[0], x[1]))
		}
	})
}

func TestMulOfMany(t *testing.T) {
	each(700, func(i int) {
		k, u := drawn(uint64(2*i)), drawn(uint64(2*i+1))
		multiplies(t, "drawn numbers", k, u, another(t, k, u))
	})
}

// About every other u is of a point of the curve itself; the others need the rule's other curve.
func TestMulByTheRule(t *testing.T) {
	var l [][2]api.Num
	for i := range uint64(100) {
		l = append(l, [2]api.Num{drawn(i), drawn(1000 + i)})
	}
	for i, u := range edges() {
		l = append(l, [2]api.Num{drawn(uint64(i)), u})
	}
	each(len(l), func(i int) { multiplies(t, "the rule", l[i][0], l[i][1], ruled(l[i][0], l[i][1])) })
}

// Of k five bits don't count, and all others do.
func TestMulOfEachBitOfK(t *testing.T) {
	for seed := range uint64(2) {
		k, u := drawn(200+seed), drawn(300+seed)
		want := Mul(k, u)
		each(256, func(bit int) {
			got := Mul(turned(k, bit), u)
			if clamps := bit < 3 || bit > 253; clamps != (got == want) {
				t.Errorf("P1201: with the bit %d of %x turned: %x", bit, k, got)
			}
			if got != another(t, turned(k, bit), u) {
				t.Errorf("P1201: Mul(%x, %x): %x", turned(k, bit), u, got)
			}
		})
	}
}

// Whatever the five bits are, k is the same number: the highest is 0, the next one 1, and the lowest three are 0.
func TestMulClamps(t *testing.T) {
	for seed := range uint64(3) {
		k, u := drawn(400+seed), drawn(500+seed)
		k[0], k[31] = k[0]&^7, k[31]&0x3f|0x40
		want := another(t, k, u)
		each(32, func(i int) {
			x := k
			x[0] |= byte(i & 7)
			x[31] = x[31]&0x3f | byte(i>>3)<<6
			multiplies(t, "bits that are clamped", x, u, want)
			if Public(x) != Public(k) {
				t.Errorf("P1201: Public(%x): %x", x, Public(x))
			}
		})
	}
}

// Of u the highest bit doesn't count, and all others do.
func TestMulOfEachBitOfU(t *testing.T) {
	for seed := range uint64(2) {
		k, u := drawn(600+seed), drawn(700+seed)
		want := Mul(k, u)
		each(256, func(bit int) {
			got := Mul(k, turned(u, bit))
			if (bit == 255) != (got == want) {
				t.Errorf("P1201: with the bit %d of %x turned: %x", bit, u, got)
			}
			if got != another(t, k, turned(u, bit)) {
				t.Errorf("P1201: Mul(%x, %x): %x", k, turned(u, bit), got)
			}
		})
	}
}

// From p up to 2^255 - 1 a u stands for what is left of it modulo p; above, the highest bit is dropped before that.
func TestMulOfWhatIsNotReduced(t *testing.T) {
	k := drawn(800)
	for n := range int64(19) {
		want := Mul(k, num(big.NewInt(n)))
		multiplies(t, "p and more", k, num(plus(prime(), n)), want)
		multiplies(t, "p and more, with the highest bit", k, turned(num(plus(prime(), n)), 255), want)
		multiplies(t, "2^255 and more", k, num(plus(power(255), n)), want)
	}
	for n := int64(2); n < 19; n++ { // as modulo p, it would be n + 19
		if u := num(plus(power(255), n)); Mul(k, u) == Mul(k, num(big.NewInt(n+19))) {
			t.Errorf("P1201: the highest bit of %x was reckoned with", u)
		}
	}
}

func TestAnswersAreReduced(t *testing.T) {
	p := prime()
	l := edges()
	each(len(l), func(i int) {
		if got := Mul(drawn(1), l[i]); bigOf(got).Cmp(p) >= 0 {
			t.Errorf("P1201: Mul of %x is not reduced: %x", l[i], got)
		}
	})
}

func TestPublic(t *testing.T) {
	l := edges()
	for i := range uint64(200) {
		l = append(l, drawn(900+i))
	}
	each(len(l), func(i int) {
		k := l[i]
		private, err := ecdh.X25519().NewPrivateKey(k[:])
		if err != nil {
			t.Errorf("the library takes no %x: %v", k, err)
			return
		}
		if got := Public(k); got != api.Num(private.PublicKey().Bytes()) || got != Mul(k, api.Num{9}) {
			t.Errorf("P1201: Public(%x): %x", k, got)
		}
	})
}

// known are the u below 2^255 of the points whose order is at most 8: whatever k is, everybody knows the product.
func known() []api.Num {
	eight := []string{
		"325606250916557431795983626356110631294008115727848805560023387167927233504",
		"39382357235489614581723060781553021112529911719440698176882885853963445705823",
	}
	l := []api.Num{{}, {1}, num(plus(prime(), -1)), num(prime()), num(plus(prime(), 1))}
	for _, text := range eight {
		n, _ := new(big.Int).SetString(text, 10)
		l = append(l, num(n))
	}
	return l
}

func TestSharedOfKnownSecrets(t *testing.T) {
	ks := []api.Num{{}, {1}, {8}, num(plus(power(256), -1)), num(power(254)), num(plus(power(255), -8)), num(prime())}
	for i := range uint64(20) {
		ks = append(ks, drawn(1200+i))
	}
	us := known()
	each(len(us), func(i int) {
		for _, k := range ks {
			multiplies(t, "a known secret", k, us[i], api.Num{})
			multiplies(t, "a known secret, with the highest bit", k, turned(us[i], 255), api.Num{})
		}
	})
}

// What lies next to them is shared. 2 p and its neighbours would be among them only if the highest bit counted.
func TestSharedOfOthers(t *testing.T) {
	double := new(big.Int).Lsh(prime(), 1)
	k := drawn(1300)
	for _, u := range []api.Num{
		{2}, {9}, num(plus(prime(), -2)), num(plus(prime(), 2)), num(plus(power(255), -1)), num(plus(power(255), 2)),
		num(double), num(plus(double, 1)), num(plus(double, -1)), num(plus(power(256), -1)), {31: 1}, {1, 31: 1}, {0, 1},
	} {
		if got, e := Shared(k, u); e != api.OK || got == (api.Num{}) || got != another(t, k, u) {
			t.Errorf("P1201: Shared(%x, %x): %x, %d", k, u, got, e)
		}
	}
	for _, u := range known() {
		each(256, func(bit int) { shares(t, "a bit turned", k, turned(u, bit), another(t, k, turned(u, bit))) })
	}
}

// A secret that has a single byte beside bytes 0 is one all the same.
func TestIsZero(t *testing.T) {
	if !isZero(api.Num{}) {
		t.Error("P1201: 0 is not 0")
	}
	for bit := range 256 {
		if isZero(turned(api.Num{}, bit)) {
			t.Errorf("P1201: 2^%d is 0", bit)
		}
	}
}

// Who has a and who has b come to the same.
func TestBothSidesShare(t *testing.T) {
	each(150, func(i int) {
		a, b := drawn(uint64(1400+i)), drawn(uint64(1600+i))
		of, to := Public(a), Public(b)
		got, e := Shared(a, to)
		back, f := Shared(b, of)
		if got != back || e != api.OK || f != api.OK || Mul(a, to) != got || Mul(b, of) != got {
			t.Errorf("P1202: of %x and %x: %x, %d, and %x, %d", a, b, got, e, back, f)
		}
		if c := drawn(uint64(1800 + i)); Mul(c, got) != Mul(a, Mul(c, to)) {
			t.Errorf("P1202: of %x, %x and %x: the order matters", a, b, c)
		}
	})
}

// answers are what all functions tell of two numbers.
type answers struct {
	mul, public, shared api.Num
	e                   api.Errno
}

func all(k, u api.Num) answers {
	r := answers{mul: Mul(k, u), public: Public(k)}
	r.shared, r.e = Shared(k, u)
	return r
}

func TestAnswersHangOnTheArgumentsOnly(t *testing.T) {
	l := append(known(), drawn(1900), drawn(1901), drawn(1902), drawn(1903), num(plus(power(256), -1)))
	kept := slices.Clone(l)
	first, again := make([]answers, len(l)), make([]answers, len(l))
	for i := range l {
		first[i] = all(l[len(l)-1-i], l[i])
	}
	each(len(l), func(i int) { again[i] = all(l[len(l)-1-i], l[i]) })
	for i := range l {
		if first[i] != again[i] {
			t.Errorf("P1202 (P102): of %x: %v, and then %v", l[i], first[i], again[i])
		}
		if l[i] != kept[i] {
			t.Errorf("P1202 (P102): %x was changed to %x", kept[i], l[i])
		}
	}
}

func TestAnswersAreApart(t *testing.T) {
	k, u := drawn(2000), drawn(2001)
	want := all(k, u)
	got := all(k, u)
	clear(got.mul[:])
	clear(got.public[:])
	clear(got.shared[:])
	if all(k, u) != want || k != drawn(2000) || u != drawn(2001) {
		t.Errorf("P1202 (P102): an answer is shared: %v", all(k, u))
	}
}

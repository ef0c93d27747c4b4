package curve

import (
	"bytes"
	"crypto/ed25519"
	"crypto/sha512"
	"encoding/hex"
	"math/big"
	"math/rand/v2"
	"slices"
	"sync"
	"testing"

	"portcullis/api"
	"portcullis/field"
)

// drawn is a number, always the same one for the same seed.
func drawn(seed uint64) api.Num { return api.Num(text(seed, 32)) }

// text is a message, always the same one for the same seed.
func text(seed uint64, size int) []byte {
	draw := rand.New(rand.NewPCG(13, seed))
	b := make([]byte, size)
	for i := range b {
		b[i] = byte(draw.Uint32())
	}
	return b
}

func unhex(t *testing.T, text string) []byte {
	t.Helper()
	b, err := hex.DecodeString(text)
	if err != nil {
		t.Fatalf("%q: %v", text, err)
	}
	return b
}

func turned(a api.Num, bit int) api.Num {
	a[bit/8] ^= 1 << (bit % 8)
	return a
}

func prime() *big.Int { return plus(power(255), -19) }

// order is q as chapter 4 writes it.
func order() *big.Int {
	low, _ := new(big.Int).SetString("27742317777372353535851937790883648493", 10)
	return low.Add(low, power(252))
}

func power(n uint) *big.Int { return new(big.Int).Lsh(big.NewInt(1), n) }

func plus(a *big.Int, n int64) *big.Int { return new(big.Int).Add(a, big.NewInt(n)) }

// num is a number below 2^256, not reduced.
func num(n *big.Int) api.Num {
	var a api.Num
	n.FillBytes(a[:])
	slices.Reverse(a[:])
	return a
}

// bigOf is what b stands for in little-endian order.
func bigOf(b []byte) *big.Int {
	high := slices.Clone(b)
	slices.Reverse(high)
	return new(big.Int).SetBytes(high)
}

// each calls f with all numbers below n, at once, because one multiplication takes long.
func each(n int, f func(i int)) {
	var wait sync.WaitGroup
	next := make(chan int)
	for range 8 {
		wait.Go(func() {
			for i := range next {
				f(i)
			}
		})
	}
	for i := range n {
		next <- i
	}
	close(next)
	wait.Wait()
}

// spot is a point of the curve, by another arithmetic and other formulas than those that are tested.
type spot struct{ x, y *big.Int }

func zeroSpot() spot { return spot{big.NewInt(0), big.NewInt(1)} }

func modulo(a *big.Int) *big.Int { return new(big.Int).Mod(a, prime()) }

func inverse(a *big.Int) *big.Int { return new(big.Int).ModInverse(modulo(a), prime()) }

func product(l ...*big.Int) *big.Int {
	out := big.NewInt(1)
	for _, a := range l {
		out = modulo(out.Mul(out, a))
	}
	return out
}

// coefficient is d, as the chapter writes it.
func coefficient() *big.Int { return product(big.NewInt(-121665), inverse(big.NewInt(121666))) }

func (a spot) same(b spot) bool { return a.x.Cmp(b.x) == 0 && a.y.Cmp(b.y) == 0 }

// on tells whether a is on the curve.
func (a spot) on() bool {
	x, y := product(a.x, a.x), product(a.y, a.y)
	right := plus(product(coefficient(), x, y), 1)
	return modulo(right.Sub(right, y).Add(right, x)).Sign() == 0
}

func (a spot) plus(b spot) spot {
	e := product(coefficient(), a.x, b.x, a.y, b.y)
	less, more := new(big.Int).Sub(big.NewInt(1), e), plus(e, 1)
	both := inverse(product(less, more))
	x := new(big.Int).Add(product(a.x, b.y), product(b.x, a.y))
	y := new(big.Int).Add(product(a.y, b.y), product(a.x, b.x))
	return spot{product(x, both, less), product(y, both, more)}
}

func (a spot) times(n *big.Int) spot {
	out := zeroSpot()
	for bit := n.BitLen() - 1; bit >= 0; bit-- {
		out = out.plus(out)
		if n.Bit(bit) == 1 {
			out = out.plus(a)
		}
	}
	return out
}

func (a spot) code() api.Num {
	n := new(big.Int).Set(a.y)
	return num(n.SetBit(n, 255, a.x.Bit(0)))
}

// at is the point that code encodes, or none. If it is loose, it takes a y that isn't reduced, and any bit where x is 0.
func at(code api.Num, loose bool) (spot, bool) {
	y := bigOf(code[:])
	odd := y.Bit(255)
	y.SetBit(y, 255, 0)
	if !loose && y.Cmp(prime()) >= 0 {
		return spot{}, false
	}
	y = modulo(y)
	square := product(y, y)
	x := product(plus(square, -1), inverse(plus(product(coefficient(), square), 1)))
	x = new(big.Int).ModSqrt(x, prime())
	if x == nil || !loose && x.Sign() == 0 && odd == 1 {
		return spot{}, false
	}
	if x.Bit(0) != odd {
		x = modulo(x.Neg(x))
	}
	return spot{x, y}, true
}

// origin is B, as the chapter tells it.
func origin() spot {
	b, _ := at(num(product(big.NewInt(4), inverse(big.NewInt(5)))), false)
	return b
}

// digest is the SHA-512 digest of all of b, as a number modulo q.
func digest(b ...[]byte) *big.Int {
	sum := sha512.Sum512(slices.Concat(b...))
	return new(big.Int).Mod(bigOf(sum[:]), order())
}

// secret is the number of which the public key of seed is made.
func secret(seed api.Num) *big.Int {
	sum := sha512.Sum512(seed[:])
	n := bigOf(sum[:32])
	for bit, value := range map[int]uint{0: 0, 1: 0, 2: 0, 254: 1, 255: 0} {
		n.SetBit(n, bit, value)
	}
	return n
}

// ruled is what Verify answers, as the chapter tells it, or, if it is loose, but for the rules of what encodes a point.
func ruled(key api.Num, sig api.Sig, m []byte, loose bool) bool {
	s := bigOf(sig[32:])
	a, okA := at(key, loose)
	r, okR := at(api.Num(sig[:32]), loose)
	if s.Cmp(order()) >= 0 || !okA || !okR {
		return false
	}
	return origin().times(s).same(r.plus(a.times(digest(sig[:32], key[:], m))))
}

// another is what the library's Ed25519 answers, which takes more keys: only those that encode a point count here.
func another(key api.Num, sig api.Sig, m []byte) bool {
	_, ok := at(key, false)
	return ok && ed25519.Verify(key[:], m, sig[:])
}

func of(r api.Num, s *big.Int) api.Sig {
	b := num(s)
	return api.Sig(slices.Concat(r[:], b[:]))
}

// signed is the library's signature, and its public key.
func signed(seed api.Num, m []byte) (api.Num, api.Sig) {
	private := ed25519.NewKeyFromSeed(seed[:])
	return api.Num(private[32:]), api.Sig(ed25519.Sign(private, m))
}

// signs holds all calls against the library's, for a seed and a message.
func signs(t *testing.T, what string, seed api.Num, m []byte) {
	t.Helper()
	key, sig := signed(seed, m)
	if got := Public(seed); got != key {
		t.Errorf("P1301: %s: Public(%x): %x, want %x", what, seed, got, key)
	}
	if got := Sign(seed, m); got != sig {
		t.Errorf("P1301: %s: Sign(%x) of %d bytes: %x, want %x", what, seed, len(m), got, sig)
	}
	verifies(t, what, key, sig, m, true)
	if !May(key) {
		t.Errorf("P1301: %s: May(%x): false", what, key)
	}
}

func verifies(t *testing.T, what string, key api.Num, sig api.Sig, m []byte, want bool) {
	t.Helper()
	if got := Verify(key, sig, m); got != want {
		t.Errorf("P1301: %s: Verify(%x, %x) of %d bytes: %v", what, key, sig, len(m), got)
	}
}

// example is one of RFC 8032, section 7.1.
type example struct{ seed, key, message, sig string }

func examples() []example {
	abc := sha512.Sum512([]byte("abc"))
	return []example{
		{
			"9d61b19deffd5a60ba844af492ec2cc44449c5697b326919703bac031cae7f60",
			"d75a980182b10ab7d54bfed3c964073a0ee172f3daa62325af021a68f707511a",
			"",
			"e5564300c360ac729086e2cc806e828a84877f1eb8e5d974d873e065224901555fb8821590a33bacc61e39701cf9b46bd25bf5f0595bbe24655141438e7a100b",
		},
		{
			"4ccd089b28ff96da9db6c346ec114e0f5b8a319f35aba624da8cf6ed4fb8a6fb",
			"3d4017c3e843895a92b70aa74d1b7ebc9c982ccf2ec4968cc0cd55f12af4660c",
			"72",
			"92a009a9f0d4cab8720e820b5f642540a2b27b5416503f8fb3762223ebdb69da085ac1e43e15996e458f3613d0f11d8c387b2eaeb4302aeeb00d291612bb0c00",
		},
		{
			"c5aa8df43f9f837bedb7442f31dcb7b166d38535076f094b85ce3a2e0b4458f7",
			"fc51cd8e6218a1a38da47ed00230f0580816ed13ba3303ac5deb911548908025",
			"af82",
			"6291d657deec24024827e69c3abe01a30ce548a284743a445e3680d7db5ac3ac18ff9b538d16f290ae67f760984dc6594a7c15e9716ed28dc027beceea1ec40a",
		},
		{
			"833fe62409237b9d62ec77587520911e9a759cec1d19755b7da901b96dca3d42",
			"ec172b93ad5e563bf4932c70e1245034c35467ef2efd4d64ebf819683467e2bf",
			hex.EncodeToString(abc[:]),
			"dc2a4459e7369633a52b1bf277839a00201009a3efbf3ecb69bea2186c26b58909351fc9ac90b3ecfdfbc7c66431e0303dca179c138ac17ad9bef1177331a704",
		},
	}
}

func TestByHand(t *testing.T) {
	for _, x := range examples() {
		seed, key, m, sig := api.Num(unhex(t, x.seed)), api.Num(unhex(t, x.key)), unhex(t, x.message), api.Sig(unhex(t, x.sig))
		if got := Public(seed); got != key {
			t.Errorf("P1301: Public(%x): %x", seed, got)
		}
		if got := Sign(seed, m); got != sig {
			t.Errorf("P1301: Sign(%x, %x): %x", seed, m, got)
		}
		verifies(t, "the RFC's example", key, sig, m, true)
		verifies(t, "another message", key, sig, append(m, 0), false)
		if !ruled(key, sig, m, false) || ruled(key, sig, append(m, 0), false) || origin().times(secret(seed)).code() != key {
			t.Errorf("the rules of this test: %x", key)
		}
	}
	if May(api.Num{2}) {
		t.Error("P1301: May of 2")
	}
}

// edges are numbers at which a seed or a y may go wrong, up to 2^256 - 1.
func edges() []api.Num {
	var l []api.Num
	for n := range int64(45) {
		l = append(l, num(big.NewInt(n)), num(plus(prime(), n-45)), num(plus(prime(), n)), num(plus(power(255), n)))
		l = append(l, num(plus(power(256), -n-1)), num(plus(power(254), n-20)), num(plus(order(), n-20)))
	}
	for n := uint(6); n < 256; n += 5 {
		l = append(l, num(power(n)), num(plus(power(n), -1)))
	}
	return l
}

func TestSignByEdges(t *testing.T) {
	l := edges()
	each(len(l), func(i int) { signs(t, "an edge", l[i], l[len(l)-1-i][:i%33]) })
}

func TestSignOfEachLength(t *testing.T) {
	each(420, func(i int) { signs(t, "a length", drawn(uint64(i)), text(uint64(1000+i), i)) })
	for _, size := range []int{1000, 4095, 65536, 1<<20 + 77} {
		signs(t, "a greater length", drawn(uint64(size)), text(1, size))
	}
}

func TestSignByTheRule(t *testing.T) {
	each(60, func(i int) {
		seed, m := drawn(uint64(2000+i)), text(uint64(3000+i), i*3)
		a, sum := secret(seed), sha512.Sum512(seed[:])
		key := origin().times(a).code()
		once := digest(sum[32:], m)
		r := origin().times(once).code()
		s := new(big.Int).Mul(a, digest(r[:], key[:], m))
		want := of(r, s.Add(s, once).Mod(s, order()))
		if Public(seed) != key || Sign(seed, m) != want || !Verify(key, want, m) || !ruled(key, want, m, false) {
			t.Errorf("P1301: of %x: %x, %x", seed, Public(seed), Sign(seed, m))
		}
	})
}

// All bits of the seed and of the message count.
func TestSignOfEachBit(t *testing.T) {
	seed, m := drawn(4000), text(4001, 140)
	want := Sign(seed, m)
	each(256, func(bit int) {
		if Public(turned(seed, bit)) == Public(seed) {
			t.Errorf("P1301: Public with the bit %d turned", bit)
		}
		signs(t, "a bit of the seed turned", turned(seed, bit), m)
	})
	each(8*len(m), func(bit int) {
		x := slices.Clone(m)
		x[bit/8] ^= 1 << (bit % 8)
		if got := Sign(seed, x); got == want || api.Num(got[:32]) == api.Num(want[:32]) {
			t.Errorf("P1301: Sign with the bit %d of the message turned: %x", bit, got)
		}
		verifies(t, "a bit of the message turned", Public(seed), want, x, false)
	})
}

// cuts are ways to lay m into pieces.
func cuts(m []byte) [][][]byte {
	l := [][][]byte{{m}, {nil, m, {}}, {m[:1], nil, nil, m[1:2], {}, m[2:]}}
	for n := range len(m) + 1 {
		l = append(l, [][]byte{m[:n], m[n:]}, [][]byte{m[:n/2], m[n/2 : n], m[n:]})
	}
	var single [][]byte
	for i := range m {
		single = append(single, m[i:i+1])
	}
	return append(l, single)
}

func TestPieces(t *testing.T) {
	seed, m := drawn(5000), text(5001, 150)
	key, want := signed(seed, m)
	l := cuts(m)
	each(len(l), func(i int) {
		if got := Sign(seed, l[i]...); got != want {
			t.Errorf("P1301: Sign of the pieces %d: %x", i, got)
		}
		if !Verify(key, want, l[i]...) {
			t.Errorf("P1301: Verify of the pieces %d", i)
		}
		if Verify(key, want, append(slices.Clone(l[i]), []byte{0})...) || Verify(key, want, l[i][:len(l[i])-1]...) != (len(l[i][len(l[i])-1]) == 0) {
			t.Errorf("P1301: Verify of other pieces %d", i)
		}
	})
	key, want = signed(seed, nil)
	if Sign(seed) != want || Sign(seed, nil) != want || Sign(seed, nil, []byte{}) != want {
		t.Error("P1301: Sign of nothing")
	}
	if !Verify(key, want) || !Verify(key, want, nil) || !Verify(key, want, []byte{}, nil) || Verify(key, want, []byte{0}) {
		t.Error("P1301: Verify of nothing")
	}
}

func TestVerifyOfEachBit(t *testing.T) {
	for seed := uint64(6000); seed < 6003; seed++ {
		m := text(seed, 50)
		key, sig := signed(drawn(seed), m)
		each(256, func(bit int) {
			verifies(t, "a bit of the key turned", turned(key, bit), sig, m, false)
		})
		each(512, func(bit int) {
			x := sig
			x[bit/8] ^= 1 << (bit % 8)
			verifies(t, "a bit of the signature turned", key, x, m, false)
		})
	}
}

func TestVerifyOfOthers(t *testing.T) {
	each(100, func(i int) {
		m, n := text(uint64(7000+i), 20), text(uint64(7200+i), 20)
		key, sig := signed(drawn(uint64(7400+i)), m)
		other, with := signed(drawn(uint64(7600+i)), m)
		_, again := signed(drawn(uint64(7400+i)), n)
		verifies(t, "a signature", key, sig, m, true)
		verifies(t, "another's key", other, sig, m, false)
		verifies(t, "another's signature", key, with, m, false)
		verifies(t, "another message", key, sig, n, false)
		verifies(t, "another message's signature", key, again, m, false)
		verifies(t, "an R of another's", key, api.Sig(slices.Concat(with[:32], sig[32:])), m, false)
		verifies(t, "an S of another's", key, api.Sig(slices.Concat(sig[:32], with[32:])), m, false)
		verifies(t, "R and S exchanged", key, api.Sig(slices.Concat(sig[32:], sig[:32])), m, false)
		verifies(t, "no signature", key, api.Sig{}, m, false)
		verifies(t, "R's negative", key, api.Sig(slices.Concat(flipped(sig[:32]), sig[32:])), m, false)
		verifies(t, "the key's negative", api.Num(flipped(key[:])), sig, m, false)
		verifies(t, "S's negative", key, of(api.Num(sig[:32]), new(big.Int).Sub(order(), bigOf(sig[32:]))), m, false)
		verifies(t, "anything", drawn(uint64(7800+i)), api.Sig(text(uint64(8000+i), 64)), m, false)
	})
}

func flipped(code []byte) []byte {
	b := turned(api.Num(code), 255)
	return b[:]
}

// S and any S that is a multiple of q away give the same point, but only the one below q is taken.
func TestVerifyOfAGreaterS(t *testing.T) {
	each(20, func(i int) {
		m := text(uint64(9000+i), 33)
		key, sig := signed(drawn(uint64(9100+i)), m)
		s := bigOf(sig[32:])
		for n := 0; s.BitLen() <= 256; n++ {
			verifies(t, "S and a multiple of q", key, of(api.Num(sig[:32]), s), m, n == 0)
			s = s.Add(s, order())
		}
		for bit := 252; bit < 256; bit++ {
			s := bigOf(sig[32:])
			s.SetBit(s, bit, 1)
			verifies(t, "S with a high bit", key, of(api.Num(sig[:32]), s), m, s.Cmp(bigOf(sig[32:])) == 0)
		}
	})
}

// Under the zero of the group as a key any S is right with S B as R, so that S may be what one likes.
func TestVerifyOfEdgesOfS(t *testing.T) {
	l := []*big.Int{big.NewInt(0), big.NewInt(1), big.NewInt(2), power(251), plus(power(252), -1), power(252), plus(power(252), 1)}
	for n := int64(-20); n < 20; n++ {
		l = append(l, plus(order(), n))
	}
	for n := uint(1); n < 16; n++ {
		l = append(l, new(big.Int).Mul(order(), big.NewInt(int64(n))))
	}
	l = append(l, power(253), power(254), power(255), plus(power(255), -1), plus(power(256), -1))
	key := api.Num{1}
	each(len(l), func(i int) {
		r := origin().times(l[i])
		less := l[i].Cmp(order()) < 0
		verifies(t, "an S at an edge", key, of(r.code(), l[i]), text(uint64(i), i), less)
		verifies(t, "another R", key, of(r.plus(origin()).code(), l[i]), text(uint64(i), i), false)
	})
}

// small are the points whose order is at most 8: n times the point of the order 8, for all n.
func small() []spot {
	for y := int64(2); ; y++ {
		a, ok := at(num(big.NewInt(y)), false)
		if !ok {
			continue
		}
		a = a.times(order())
		if a.times(big.NewInt(4)).same(zeroSpot()) {
			continue
		}
		l := []spot{zeroSpot()}
		for range 7 {
			l = append(l, l[len(l)-1].plus(a))
		}
		return l
	}
}

// forged is a signature under the key a B + more, whose code is key, with the R that is r B and something else and whose
// code is code: its equation holds as far as the multiples of B go.
func forged(key api.Num, a *big.Int, code api.Num, r *big.Int, m []byte) (api.Sig, *big.Int) {
	k := digest(code[:], key[:], m)
	s := new(big.Int).Mul(k, a)
	return of(code, s.Add(s, r).Mod(s, order())), k
}

// There may be points of a small order in a key or in R: the equation is that of the chapter, without a cofactor, and no
// such key is refused.
func TestVerifyWithSmallOrders(t *testing.T) {
	l := small()
	for _, x := range [][2]*big.Int{
		{secret(drawn(10000)), digest([]byte("once"))}, {big.NewInt(0), digest([]byte("once"))}, {secret(drawn(10001)), big.NewInt(0)}, {big.NewInt(0), big.NewInt(0)},
	} {
		a, r := x[0], x[1]
		keys, rs := origin().times(a), origin().times(r)
		var right [64]int
		each(64, func(i int) {
			key, code := keys.plus(l[i/8]).code(), rs.plus(l[i%8]).code()
			for n := range 12 {
				m := text(uint64(10002+100*i+n), n)
				sig, k := forged(key, a, code, r, m)
				// R + k key is S B and more: i%8 + k i/8 times the point of the order 8.
				left := new(big.Int).Mul(k, big.NewInt(int64(i/8)))
				want := left.Add(left, big.NewInt(int64(i%8))).Mod(left, big.NewInt(8)).Sign() == 0
				if want {
					right[i]++
				}
				verifies(t, "a small order", key, sig, m, want)
				if another(key, sig, m) != want || n < 1 && ruled(key, sig, m, false) != want {
					t.Errorf("the rules of this test: %d: %v", i, want)
				}
			}
		})
		sum := 0
		for _, n := range right {
			sum += n
		}
		if sum < 64 || sum > 128 { // of 768, every eighth one
			t.Errorf("the messages of this test: %d", sum)
		}
	}
}

// strange are codes of points by other bytes than those that encode them: with a y that isn't reduced, or, where x is 0,
// with the bit. The first ones are of points of small orders.
func strange() []api.Num {
	l := []api.Num{
		turned(api.Num{1}, 255), turned(num(plus(prime(), -1)), 255), // x is 0
		num(prime()), turned(num(prime()), 255), // y is 0
		num(plus(prime(), 1)), turned(num(plus(prime(), 1)), 255), // both
	}
	for n := int64(2); n < 19; n++ {
		l = append(l, num(plus(prime(), n)), turned(num(plus(prime(), n)), 255))
	}
	return l
}

func TestVerifyOfOtherCodesOfKeys(t *testing.T) {
	r := digest([]byte("another"))
	code := origin().times(r).code()
	l := strange()[:6]
	each(len(l), func(i int) {
		met := false
		for n := range 40 {
			m := text(uint64(11000+100*i+n), n)
			sig, _ := forged(l[i], big.NewInt(0), code, r, m)
			verifies(t, "a key by another code", l[i], sig, m, false)
			met = met || ed25519.Verify(l[i][:], m, sig[:]) && (n > 2 || ruled(l[i], sig, m, true))
		}
		if !met {
			t.Errorf("the messages of this test: %x", l[i])
		}
	})
}

func TestVerifyOfOtherCodesOfR(t *testing.T) {
	a := secret(drawn(12000))
	key := origin().times(a).plus(small()[1]).code()
	l := strange()[:6]
	each(len(l), func(i int) {
		met := false
		for n := range 40 {
			m := text(uint64(12001+100*i+n), n)
			sig, k := forged(key, a, l[i], big.NewInt(0), m)
			verifies(t, "an R by another code", key, sig, m, false)
			r, _ := at(l[i], true)
			right := r.plus(small()[1].times(new(big.Int).Mod(k, big.NewInt(8)))).same(zeroSpot())
			if right && !met && !ruled(key, sig, m, true) {
				t.Errorf("the rules of this test: %x", l[i])
			}
			met = met || right
			own, _ := forged(key, a, r.code(), big.NewInt(0), m)
			verifies(t, "an R by its own code", key, own, m, another(key, own, m))
		}
		if !met {
			t.Errorf("the messages of this test: %x", l[i])
		}
	})
}

// What encodes no point is no key and no R.
func TestVerifyOfWhatIsNoPoint(t *testing.T) {
	seed := drawn(13000)
	key, sig := signed(seed, nil)
	l := append(strange(), api.Num{2}, api.Num{7}, turned(api.Num{8}, 255), num(plus(power(256), -1)))
	for _, code := range l {
		verifies(t, "no key", code, sig, nil, false)
		verifies(t, "no R", key, api.Sig(slices.Concat(code[:], sig[32:])), nil, false)
		x, _ := forged(key, secret(seed), code, big.NewInt(0), nil)
		verifies(t, "no R, forged", key, x, nil, false)
		verifies(t, "neither", code, x, nil, false)
		verifies(t, "S is 0", code, of(api.Num{1}, big.NewInt(0)), nil, false)
	}
}

func may(t *testing.T, code api.Num) bool {
	t.Helper()
	_, want := at(code, false)
	if got := May(code); got != want {
		t.Errorf("P1301: May(%x): %v", code, got)
	}
	return want
}

func TestMayByHand(t *testing.T) {
	for _, x := range []struct {
		code api.Num
		want bool
	}{
		{api.Num{}, true},  // y is 0: of the order 4
		{api.Num{1}, true}, // the zero of the group
		{api.Num{2}, false},
		{api.Num{3}, true},
		{api.Num{7}, false},
		{turned(api.Num{}, 255), true},
		{turned(api.Num{1}, 255), false}, // x is 0
		{turned(api.Num{2}, 255), false},
		{turned(api.Num{3}, 255), true},
		{num(plus(prime(), -1)), true},
		{turned(num(plus(prime(), -1)), 255), false}, // x is 0
		{num(plus(prime(), -2)), false},
		{num(plus(prime(), -3)), true},
		{turned(num(plus(prime(), -3)), 255), true},
		{num(prime()), false}, // as 0, but not reduced
		{num(plus(prime(), 1)), false},
		{num(plus(prime(), 3)), false},
		{turned(num(plus(prime(), 3)), 255), false},
		{num(plus(power(255), -1)), false},
		{num(plus(power(256), -1)), false},
		{api.Num(bytes.Repeat([]byte{0x66}, 32)), true},
		{turned(origin().code(), 255), true},
	} {
		if May(x.code) != x.want {
			t.Errorf("P1301: May(%x): %v", x.code, !x.want)
		}
		may(t, x.code)
	}
	for _, code := range strange() {
		if May(code) {
			t.Errorf("P1301: May(%x), by another code", code)
		}
	}
}

func TestMay(t *testing.T) {
	l := append(edges(), strange()...)
	for n := range int64(256) {
		l = append(l, num(big.NewInt(n)), num(plus(prime(), -n)), turned(num(big.NewInt(n)), 255), turned(num(plus(prime(), -n)), 255))
	}
	for _, a := range small() {
		l = append(l, a.code(), turned(a.code(), 255))
	}
	for i := range uint64(2000) {
		l = append(l, drawn(14000+i))
	}
	var points [2]int
	for _, code := range l {
		if may(t, code) {
			points[code[31]>>7]++
		}
	}
	if points[0] < 500 || points[1] < 500 {
		t.Errorf("the codes of this test: %v", points)
	}
}

// Any bit that is turned makes another code, of another point or of none.
func TestMayOfEachBit(t *testing.T) {
	for i := range uint64(4) {
		key := Public(drawn(15000 + i))
		for bit := range 256 {
			may(t, turned(key, bit))
		}
	}
}

// pointOf is a, with a z that is not 1.
func pointOf(a spot, z api.Num) point {
	x, y := num(a.x), num(a.y)
	return point{field.Mul(x, z), field.Mul(y, z), z, field.Mul(field.Mul(x, y), z)}
}

func spotOf(t *testing.T, what string, a point) spot {
	t.Helper()
	below := inverse(bigOf(a.z[:]))
	if below == nil {
		t.Fatalf("P1301: %s: divided by 0", what)
	}
	s := spot{product(bigOf(a.x[:]), below), product(bigOf(a.y[:]), below)}
	if product(bigOf(a.t[:]), below).Cmp(product(s.x, s.y)) != 0 {
		t.Errorf("P1301: %s: t is wrong: %x", what, a)
	}
	if !s.on() {
		t.Errorf("P1301: %s: it is not on the curve: %x", what, a)
	}
	return s
}

// The sums hold for all points, the zero, the base point's multiples and those of a small order among them.
func TestSums(t *testing.T) {
	l := append(small(), origin(), origin().times(big.NewInt(2)), origin().times(big.NewInt(8)), origin().times(plus(order(), -1)))
	for i := range uint64(6) {
		l = append(l, origin().times(secret(drawn(16000+i))).plus(l[i]))
	}
	for i, a := range l {
		x := pointOf(a, drawn(uint64(16100+i)))
		if got := spotOf(t, "twice", twice(x)); !got.same(a.plus(a)) {
			t.Errorf("P1301: twice %d: %v", i, got)
		}
		back := spotOf(t, "negative", negative(x))
		if !back.plus(a).same(zeroSpot()) || !spotOf(t, "a - a", sum(x, negative(x))).same(zeroSpot()) {
			t.Errorf("P1301: the negative of %d: %v", i, back)
		}
		for j, b := range l {
			y := pointOf(b, drawn(uint64(16200+j)))
			if got := spotOf(t, "sum", sum(x, y)); !got.same(a.plus(b)) {
				t.Errorf("P1301: the sum of %d and %d: %v", i, j, got)
			}
			if picked(x, y, false) != x || picked(x, y, true) != y {
				t.Errorf("P1301: one of %d and %d", i, j)
			}
		}
		if encoded(x) != a.code() {
			t.Errorf("P1301: %d: encoded: %x", i, encoded(x))
		}
		if got, ok := decoded(a.code()); !ok || !spotOf(t, "decoded", got).same(a) {
			t.Errorf("P1301: %d: decoded: %x, %v", i, got, ok)
		}
	}
}

func TestMultiples(t *testing.T) {
	eighth := small()[1].plus(origin().times(big.NewInt(77)))
	l := []*big.Int{big.NewInt(0), big.NewInt(1), big.NewInt(2), big.NewInt(3), big.NewInt(8), plus(order(), -1), order(), plus(order(), 1), power(253), power(254), plus(power(255), -1)}
	for i := range uint64(12) {
		n := drawn(17000 + i)
		l = append(l, bigOf(n[:]).SetBit(bigOf(n[:]), 255, 0))
	}
	each(len(l), func(i int) {
		m, n := l[i], l[len(l)-1-i]
		a, b := pointOf(origin(), drawn(17100)), pointOf(eighth, drawn(17200))
		wantA, wantB := origin().times(m), eighth.times(n)
		if got := spotOf(t, "times", times(num(m), a)); !got.same(wantA) {
			t.Errorf("P1301: %v times B: %v", m, got)
		}
		if got := spotOf(t, "times", times(num(n), b)); !got.same(wantB) {
			t.Errorf("P1301: %v times another point: %v", n, got)
		}
		if got := spotOf(t, "together", together(num(m), a, num(n), b)); !got.same(wantA.plus(wantB)) {
			t.Errorf("P1301: %v and %v times two points: %v", m, n, got)
		}
	})
}

func TestWords(t *testing.T) {
	if d != num(coefficient()) {
		t.Errorf("P1301: d: %x", d)
	}
	if new(big.Int).ModSqrt(coefficient(), prime()) != nil {
		t.Error("P1301: d is a square")
	}
	b := spotOf(t, "B", base())
	if product(b.y, big.NewInt(5)).Cmp(big.NewInt(4)) != 0 || b.x.Bit(0) != 0 || !b.same(origin()) {
		t.Errorf("P1301: B: %v", b)
	}
	if !b.times(order()).same(zeroSpot()) {
		t.Error("P1301: B's order")
	}
	if !spotOf(t, "zero", zero()).same(zeroSpot()) {
		t.Errorf("P1301: zero: %x", zero())
	}
	for _, a := range append(edges(), drawn(18000), drawn(18001)) {
		want := bigOf(a[:])
		for bit, value := range map[int]uint{0: 0, 1: 0, 2: 0, 254: 1, 255: 0} {
			want.SetBit(want, bit, value)
		}
		if got := clamped(a); got != num(want) {
			t.Errorf("P1301: %x, clamped: %x", a, got)
		}
	}
}

// What Sign answers, Verify takes under Public of the seed.
func TestWhatIsSignedIsVerified(t *testing.T) {
	l := edges()
	for i := range uint64(100) {
		l = append(l, drawn(19000+i))
	}
	each(len(l), func(i int) {
		m := text(uint64(19200+i), i%90)
		if !Verify(Public(l[i]), Sign(l[i], m[:i%90/2], m[i%90/2:]), m) || !May(Public(l[i])) {
			t.Errorf("P1302: of %x and %x", l[i], m)
		}
	})
}

// answers are what all functions tell of a seed and a message.
type answers struct {
	public    api.Num
	sign      api.Sig
	yes, no   bool
	may, such bool
}

func all(seed api.Num, b ...[]byte) answers {
	r := answers{public: Public(seed), sign: Sign(seed, b...), may: May(seed)}
	r.such = May(r.public)
	r.yes = Verify(r.public, r.sign, b...)
	r.no = Verify(seed, r.sign, b...)
	return r
}

func TestAnswersHangOnTheArgumentsOnly(t *testing.T) {
	const n = 40
	first, again := make([]answers, n), make([]answers, n)
	for i := range n {
		first[i] = all(drawn(uint64(20000+i)), text(uint64(20100+i), i), text(uint64(20200+i), i))
	}
	each(n, func(i int) {
		again[i] = all(drawn(uint64(20000+i)), text(uint64(20100+i), i), text(uint64(20200+i), i))
	})
	if !slices.Equal(first, again) {
		t.Error("P1302 (P102): another answer to the same arguments")
	}
}

// What stands behind an argument in its memory, of the bytes and of the list of pieces, stays as it was too.
func TestArgumentsStay(t *testing.T) {
	seed := drawn(21000)
	room := text(21001, 300)
	kept := slices.Clone(room)
	list := [][]byte{room[10:60], room[60:61], room[100:100], room[120:200], room[200:]}
	lengths := []int{50, 1, 0, 80, 100}
	for n := range len(list) + 1 {
		first := all(seed, list[:n]...)
		if !first.yes || first.no {
			t.Errorf("P1302: of %d pieces: %v", n, first)
		}
		if !bytes.Equal(room, kept) {
			t.Fatalf("P1302 (P102): of %d pieces, an argument was changed", n)
		}
		for i, x := range list {
			if len(x) != lengths[i] || len(x) > 0 && &x[0] != &room[[]int{10, 60, 100, 120, 200}[i]] {
				t.Fatalf("P1302 (P102): of %d pieces, the piece %d is another one", n, i)
			}
		}
		if seed != drawn(21000) {
			t.Fatal("P1302 (P102): the seed was changed")
		}
	}
}

func TestAnswersAreApart(t *testing.T) {
	seed, room := drawn(22000), text(22001, 90)
	want := all(seed, room)
	got := all(seed, room)
	clear(got.public[:])
	clear(got.sign[:])
	clear(room)
	if again := all(seed, text(22001, 90)); again != want {
		t.Errorf("P1302 (P102): an answer is shared: %v", again)
	}
}

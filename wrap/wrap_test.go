package wrap

import (
	"bytes"
	"crypto/ecdh"
	"crypto/hkdf"
	"crypto/sha256"
	"encoding/hex"
	"math/big"
	"math/rand/v2"
	"slices"
	"strconv"
	"sync"
	"testing"

	"portcullis/aead"
	"portcullis/api"
	"portcullis/derive"
	"portcullis/ladder"
)

// drawn are n bytes, always the same ones for the same seed.
func drawn(seed uint64, n int) []byte {
	b := make([]byte, n)
	draw := rand.New(rand.NewPCG(14, seed))
	for i := range b {
		b[i] = byte(draw.Uint32())
	}
	return b
}

func numDrawn(seed uint64) api.Num { return api.Num(drawn(seed, 32)) }

func unhex(t *testing.T, text string) []byte {
	t.Helper()
	b, err := hex.DecodeString(text)
	if err != nil {
		t.Fatal(err)
	}
	return b
}

func turned(a api.Num, bit int) api.Num {
	a[bit/8] ^= 1 << (bit % 8)
	return a
}

func power(n uint) *big.Int { return new(big.Int).Lsh(big.NewInt(1), n) }

// near is base + n as 32 bytes, not reduced.
func near(base *big.Int, n int64) api.Num {
	var a api.Num
	new(big.Int).Add(base, big.NewInt(n)).FillBytes(a[:])
	slices.Reverse(a[:])
	return a
}

// nearPrime is p + n.
func nearPrime(n int64) api.Num { return near(power(255), n-19) }

// known are the public keys with which everybody would have the same secret: the points whose order is at most 8, as they
// can be written below 2^255, and with the highest bit.
func known(t *testing.T) []api.Num {
	l := []api.Num{{}, {1}, nearPrime(-1), nearPrime(0), nearPrime(1)}
	for _, text := range []string{
		"e0eb7a7c3b41b8ae1656e3faf19fc46ada098deb9c32b1fd866205165f49b800",
		"5f9c95bca3508c24b1d0b1559c83ef5b04445cc4581c8e86d8224eddd09f1157",
	} {
		l = append(l, api.Num(unhex(t, text)))
	}
	for _, u := range l {
		l = append(l, turned(u, 255))
	}
	return l
}

// edges are numbers at which a secret or a drawn number may go wrong.
func edges() []api.Num {
	l := []api.Num{{2}, {7}, {8}, {9}, {31: 0x40}, {31: 0x80}, {31: 0x7f}}
	for n := range int64(20) {
		l = append(l, nearPrime(n-20), nearPrime(n+2), near(power(255), n+2), near(power(256), -n-1))
	}
	return l
}

// fronts are numbers at which a public key may go wrong, of which none is known.
func fronts(t *testing.T) []api.Num {
	l, none := edges(), known(t)
	for i := range uint64(10) {
		l = append(l, numDrawn(4000+i), turned(numDrawn(4000+i), 255))
	}
	return slices.DeleteFunc(l, func(u api.Num) bool { return slices.Contains(none, u) })
}

// each calls f with all numbers below n, at once, because one multiplication takes long.
func each(n int, f func(i int)) {
	var wait sync.WaitGroup
	next := make(chan int)
	for range 8 {
		wait.Go(func() {
			for i := range next {
				f(i)
			}
		})
	}
	for i := range n {
		next <- i
	}
	close(next)
	wait.Wait()
}

// joined is front, and rest behind it.
func joined(front api.Num, rest []byte) []byte { return slices.Concat(front[:], rest) }

// libraryPublic is the public key of k, as the library's X25519 computes it.
func libraryPublic(t *testing.T, k api.Num) api.Num {
	t.Helper()
	private, err := ecdh.X25519().NewPrivateKey(k[:])
	if err != nil {
		t.Errorf("the library takes no %x: %v", k, err)
		return api.Num{}
	}
	return api.Num(private.PublicKey().Bytes())
}

// libraryShared is the secret of k and u, as the library's X25519 computes it, or 0 where it computes none.
func libraryShared(t *testing.T, k, u api.Num) api.Num {
	t.Helper()
	private, e1 := ecdh.X25519().NewPrivateKey(k[:])
	public, e2 := ecdh.X25519().NewPublicKey(u[:])
	if e1 != nil || e2 != nil {
		t.Errorf("the library takes no %x and %x: %v, %v", k, u, e1, e2)
		return api.Num{}
	}
	b, err := private.ECDH(public)
	if err != nil {
		return api.Num{}
	}
	return api.Num(b)
}

// libraryKey is the key that the library's HKDF derives.
func libraryKey(t *testing.T, salt, secret api.Num, info string) api.Num {
	t.Helper()
	b, err := hkdf.Key(sha256.New, secret[:], salt[:], info, 32)
	if err != nil {
		t.Errorf("the library derives no key: %v", err)
		return api.Num{}
	}
	return api.Num(b)
}

// ruled is what Wrap answers where it answers no error, as the chapter tells it.
func ruled(t *testing.T, to, draw, key api.Num) []byte {
	t.Helper()
	e, z := libraryPublic(t, draw), libraryShared(t, draw, to)
	under := libraryKey(t, e, z, "wrap")
	return joined(e, aead.Seal(under, api.Nonce{}, key[:], to[:]))
}

// wraps checks that Wrap answers want.
func wraps(t *testing.T, what string, to, draw, key api.Num, want []byte) {
	t.Helper()
	if got, e := Wrap(to, draw, key); e != api.OK || !bytes.Equal(got, want) {
		t.Errorf("P1401: %s: Wrap(%x, %x, %x): %x, %d, want %x", what, to, draw, key, got, e, want)
	}
}

// unwraps checks that Unwrap answers key.
func unwraps(t *testing.T, what string, secret api.Num, b []byte, key api.Num) {
	t.Helper()
	if got, e := Unwrap(secret, b); e != api.OK || got != key {
		t.Errorf("P1401: %s: Unwrap(%x, %x): %x, %d, want %x", what, secret, b, got, e, key)
	}
}

// refuses checks that Unwrap answers that error, and nothing beside it.
func refuses(t *testing.T, what string, secret api.Num, b []byte, want api.Errno) {
	t.Helper()
	if got, e := Unwrap(secret, b); e != want || got != (api.Num{}) {
		t.Errorf("P1401: %s: Unwrap(%x, %x): %x, %d, want the error %d", what, secret, b, got, e, want)
	}
}

// The answers that another implementation computes.
func TestByHand(t *testing.T) {
	for i, x := range []struct{ secret, to, draw, key, want string }{
		{
			"0000000000000000000000000000000000000000000000000000000000000000",
			"2fe57da347cd62431528daac5fbb290730fff684afc4cfc2ed90995f58cb3b74",
			"0000000000000000000000000000000000000000000000000000000000000000",
			"0000000000000000000000000000000000000000000000000000000000000000",
			"2fe57da347cd62431528daac5fbb290730fff684afc4cfc2ed90995f58cb3b74" +
				"d0bcec27e88f62da4fd8c6cc85758f8fea311e9146bf5e5c07e58aa5f61c190f91a5d232c81de0a4fd52b7fa27682dd6",
		},
		{
			"ffffffffffffffffffffffffffffffffffffffffffffffffffffffffffffffff",
			"847c0d2c375234f365e660955187a3735a0f7613d1609d3a6a4d8c53aeaa5a22",
			"ffffffffffffffffffffffffffffffffffffffffffffffffffffffffffffffff",
			"ffffffffffffffffffffffffffffffffffffffffffffffffffffffffffffffff",
			"847c0d2c375234f365e660955187a3735a0f7613d1609d3a6a4d8c53aeaa5a22" +
				"5f79bcb686a71aa8a2359950937b26e5359a23936d62c3c38d141da29f4d36f1ce3a023b8de918b95d80d1238d716981",
		},
		{
			"0102030405060708090a0b0c0d0e0f101112131415161718191a1b1c1d1e1f20",
			"07a37cbc142093c8b755dc1b10e86cb426374ad16aa853ed0bdfc0b2b86d1c7c",
			"2122232425262728292a2b2c2d2e2f303132333435363738393a3b3c3d3e3f40",
			"4142434445464748494a4b4c4d4e4f505152535455565758595a5b5c5d5e5f60",
			"5869aff450549732cbaaed5e5df9b30a6da31cb0e5742bad5ad4a1a768f1a67b" +
				"d12c41ba3dbe2c66ea2df0ac77eed589a618993d054ad0a1bd875f7b26ea4ec31682a2e4ff192c5a2bda5ea4caefb0da",
		},
		{
			"77076d0a7318a57d3c16c17251b26645df4c2f87ebc0992ab177fba51db92c2a",
			"8520f0098930a754748b7ddcb43ef75a0dbf3a0d26381af4eba4a98eaa9b4e6a",
			"5dab087e624a8a4b79e17f8b83800ee66f3bb1292618b6fd1c2f8b27ff88e0eb",
			"808182838485868788898a8b8c8d8e8f909192939495969798999a9b9c9d9e9f",
			"de9edb7d7b7dc1b4d35b61c2ece435373f8343c85b78674dadfc7e146f882b4f" +
				"f2d75697a8a26422933590da17cc61db32f347d2f141eefa68c452517de6b0061dab57a2d262b7b681fcbdc9ff4ab9e4",
		},
	} {
		what := "the example " + strconv.Itoa(i+1)
		to, draw, key := api.Num(unhex(t, x.to)), api.Num(unhex(t, x.draw)), api.Num(unhex(t, x.key))
		wraps(t, what, to, draw, key, unhex(t, x.want))
		unwraps(t, what, api.Num(unhex(t, x.secret)), unhex(t, x.want), key)
		if rule := ruled(t, to, draw, key); !bytes.Equal(rule, unhex(t, x.want)) {
			t.Errorf("%s: the rule of this test: %x", what, rule)
		}
	}
}

// The examples of the chapter.
func TestOfTheChapter(t *testing.T) {
	if got, e := Wrap(api.Num{}, numDrawn(1), numDrawn(2)); e != api.ErrKey || got != nil {
		t.Errorf("P1401: Wrap for the public key 0: %x, %d", got, e)
	}
	refuses(t, "79 bytes", numDrawn(3), drawn(4, 79), api.ErrByte)
	refuses(t, "80 bytes 0", numDrawn(3), make([]byte, 80), api.ErrKey)
}

func TestOfMany(t *testing.T) {
	each(300, func(i int) {
		seed := uint64(1000 + 3*i)
		secret, draw, key := numDrawn(seed), numDrawn(seed+1), numDrawn(seed+2)
		to := ladder.Public(secret)
		want := ruled(t, to, draw, key)
		wraps(t, "drawn numbers", to, draw, key, want)
		unwraps(t, "drawn numbers", secret, want, key)
		if front := libraryPublic(t, draw); len(want) != 80 || !bytes.HasPrefix(want, front[:]) {
			t.Errorf("the rule of this test: %x", want)
		}
	})
}

func TestOfEdges(t *testing.T) {
	l := edges()
	each(len(l), func(i int) {
		seed := uint64(3000 + 3*i)
		for _, x := range [][3]api.Num{
			{l[i], numDrawn(seed), numDrawn(seed + 1)},
			{numDrawn(seed), l[i], numDrawn(seed + 1)},
			{numDrawn(seed), numDrawn(seed + 1), l[i]},
			{l[i], l[i], l[i]},
		} {
			secret, draw, key := x[0], x[1], x[2]
			want := ruled(t, libraryPublic(t, secret), draw, key)
			wraps(t, "an edge", libraryPublic(t, secret), draw, key, want)
			unwraps(t, "an edge", secret, want, key)
		}
	})
}

// A public key counts as it stands, even where it isn't reduced or has the highest bit.
func TestWrapForOtherPublicKeys(t *testing.T) {
	l := fronts(t)
	each(len(l), func(i int) {
		to, draw, key := l[i], numDrawn(uint64(4500+i)), numDrawn(uint64(4700+i))
		wraps(t, "any public key", to, draw, key, ruled(t, to, draw, key))
	})
}

// What is wrapped is not seen in what Wrap answers, and each bit of it comes back.
func TestOfEachBitOfTheKey(t *testing.T) {
	secret, draw, key := numDrawn(10), numDrawn(11), numDrawn(12)
	to := ladder.Public(secret)
	each(256, func(bit int) {
		b, e := Wrap(to, draw, turned(key, bit))
		if e != api.OK || bytes.Contains(b, key[:8]) || bytes.Contains(b, key[24:]) {
			t.Errorf("P1401: Wrap of %x: %x, %d", turned(key, bit), b, e)
		}
		unwraps(t, "a bit of the key turned", secret, b, turned(key, bit))
	})
}

// Each other drawn number gives other bytes, but for the five bits that are clamped.
func TestOfEachBitOfDraw(t *testing.T) {
	secret, draw, key := numDrawn(13), numDrawn(14), numDrawn(15)
	to := ladder.Public(secret)
	want := ruled(t, to, draw, key)
	each(256, func(bit int) {
		b, e := Wrap(to, turned(draw, bit), key)
		if e != api.OK || len(b) != 80 {
			t.Errorf("P1401: Wrap(%x, %x, %x): %x, %d", to, turned(draw, bit), key, b, e)
			return
		}
		same := bytes.Equal(b[:32], want[:32]) || bytes.Equal(b[32:], want[32:])
		if clamps := bit < 3 || bit > 253; clamps != same {
			t.Errorf("P1401: Wrap with the bit %d of %x turned: %x", bit, draw, b)
		}
		unwraps(t, "a bit of the drawn number turned", secret, b, key)
	})
}

// What is wrapped for another public key is refused, even for the same one with the highest bit.
func TestOfEachBitOfTo(t *testing.T) {
	secret, draw, key := numDrawn(16), numDrawn(17), numDrawn(18)
	to := ladder.Public(secret)
	each(256, func(bit int) {
		want := ruled(t, turned(to, bit), draw, key)
		wraps(t, "a bit of the public key turned", turned(to, bit), draw, key, want)
		refuses(t, "wrapped for another public key", secret, want, api.ErrTag)
	})
}

func TestWrapForKnownSecrets(t *testing.T) {
	draws := append(edges(), api.Num{}, api.Num{1}, numDrawn(19))
	us := known(t)
	each(len(draws), func(i int) {
		for _, to := range us {
			if got, e := Wrap(to, draws[i], numDrawn(20)); e != api.ErrKey || got != nil {
				t.Errorf("P1401: Wrap(%x, %x): %x, %d", to, draws[i], got, e)
			}
		}
	})
}

// The number of bytes is looked at ahead of all else.
func TestUnwrapOfOtherLengths(t *testing.T) {
	secret, key := numDrawn(21), numDrawn(22)
	b := ruled(t, ladder.Public(secret), numDrawn(23), key)
	for n := range 400 {
		if n == 80 {
			continue
		}
		refuses(t, "bytes 0", secret, make([]byte, n), api.ErrByte)
		refuses(t, "drawn bytes", secret, drawn(24, n), api.ErrByte)
		refuses(t, "more", secret, append(slices.Clone(b), make([]byte, n+1)...), api.ErrByte)
		refuses(t, "more in front", secret, append(make([]byte, n+1), b...), api.ErrByte)
	}
	for n := range 80 {
		refuses(t, "less", secret, b[:n], api.ErrByte)
		refuses(t, "less in front", secret, b[n+1:], api.ErrByte)
	}
	for _, none := range [][]byte{nil, {}, b[:0]} {
		refuses(t, "no bytes", secret, none, api.ErrByte)
	}
	refuses(t, "two of them", secret, append(slices.Clone(b), b...), api.ErrByte)
	refuses(t, "many", secret, make([]byte, 1<<20), api.ErrByte)
	unwraps(t, "80 bytes, and more behind them", secret, append(slices.Clone(b), b...)[:80], key)
}

// The public key at the front is refused ahead of the tag, even if the tag is right under the secret that all know.
func TestUnwrapOfKnownSecrets(t *testing.T) {
	secrets := []api.Num{{}, {1}, near(power(256), -1), numDrawn(25), numDrawn(26), numDrawn(27)}
	us := known(t)
	each(len(us), func(i int) {
		for _, secret := range secrets {
			to, key := ladder.Public(secret), numDrawn(28)
			sealed := aead.Seal(libraryKey(t, us[i], api.Num{}, "wrap"), api.Nonce{}, key[:], to[:])
			for _, rest := range [][]byte{sealed, make([]byte, 48), drawn(29, 48)} {
				refuses(t, "a secret that all know", secret, joined(us[i], rest), api.ErrKey)
			}
		}
	})
}

func TestUnwrapOfEachBit(t *testing.T) {
	secret, key := numDrawn(30), numDrawn(31)
	b := ruled(t, ladder.Public(secret), numDrawn(32), key)
	each(8*len(b), func(bit int) {
		other := slices.Clone(b)
		other[bit/8] ^= 1 << (bit % 8)
		refuses(t, "the bit "+strconv.Itoa(bit)+" turned", secret, other, api.ErrTag)
	})
	unwraps(t, "nothing turned", secret, b, key)
}

// Another secret opens nothing. The five bits that are clamped make no other secret.
func TestUnwrapOfEachBitOfTheSecret(t *testing.T) {
	secret, key := numDrawn(33), numDrawn(34)
	b := ruled(t, ladder.Public(secret), numDrawn(35), key)
	each(256, func(bit int) {
		if bit < 3 || bit > 253 {
			unwraps(t, "a clamped bit turned", turned(secret, bit), b, key)
			return
		}
		refuses(t, "a bit of the secret turned", turned(secret, bit), b, api.ErrTag)
	})
}

// Nor does the secret of who wrapped the key: the bytes name the device.
func TestUnwrapByTheDrawnNumber(t *testing.T) {
	secret, draw, key := numDrawn(36), numDrawn(37), numDrawn(38)
	b := ruled(t, ladder.Public(secret), draw, key)
	refuses(t, "the drawn number", draw, b, api.ErrTag)
	refuses(t, "the drawn number, and the device's public key", draw, joined(ladder.Public(secret), b[32:]), api.ErrTag)
	own := ruled(t, ladder.Public(draw), draw, key)
	wraps(t, "for its own drawn number", ladder.Public(draw), draw, key, own)
	unwraps(t, "for its own drawn number", draw, own, key)
}

// Each part is of use with the others alone.
func TestUnwrapOfPartsOfTwo(t *testing.T) {
	secret := numDrawn(39)
	to := ladder.Public(secret)
	a, b := ruled(t, to, numDrawn(40), numDrawn(41)), ruled(t, to, numDrawn(42), numDrawn(43))
	for _, cut := range []int{32, 64} {
		refuses(t, "parts of two", secret, slices.Concat(a[:cut], b[cut:]), api.ErrTag)
	}
	refuses(t, "parts of two", secret, slices.Concat(a[:32], b[32:64], a[64:]), api.ErrTag)
	refuses(t, "the tag in front of the key", secret, slices.Concat(a[:32], a[64:], a[32:64]), api.ErrTag)
	refuses(t, "the public key behind", secret, slices.Concat(a[32:], a[:32]), api.ErrTag)
	unwraps(t, "one", secret, a, numDrawn(41))
	unwraps(t, "the other", secret, b, numDrawn(43))
}

// sealing is what may stand in a wrapped key behind its public key.
type sealing struct {
	under  api.Num
	nonce  api.Nonce
	beside []byte
}

// What is wrapped by a rule next to the right one is refused.
func TestUnwrapByOtherRules(t *testing.T) {
	secret, draw, key := numDrawn(44), numDrawn(45), numDrawn(46)
	e, to, z := libraryPublic(t, draw), libraryPublic(t, secret), libraryShared(t, draw, libraryPublic(t, secret))
	long, err := hkdf.Key(sha256.New, z[:], e[:], "wrap", 64)
	if err != nil {
		t.Fatal(err)
	}
	high, none := turned(to, 255), api.Nonce{}
	right := libraryKey(t, e, z, "wrap")
	unwraps(t, "the right rule", secret, joined(e, aead.Seal(right, none, key[:], to[:])), key)
	for i, x := range []sealing{
		{z, none, to[:]},
		{e, none, to[:]},
		{api.Num{}, none, to[:]},
		{derive.Extract(e[:], z[:]), none, to[:]},
		{derive.Key(z, "wrap"), none, to[:]},
		{libraryKey(t, z, e, "wrap"), none, to[:]},
		{libraryKey(t, to, z, "wrap"), none, to[:]},
		{libraryKey(t, api.Num{}, z, "wrap"), none, to[:]},
		{libraryKey(t, e, api.Num{}, "wrap"), none, to[:]},
		{libraryKey(t, e, to, "wrap"), none, to[:]},
		{libraryKey(t, e, z, ""), none, to[:]},
		{libraryKey(t, e, z, "Wrap"), none, to[:]},
		{libraryKey(t, e, z, "wra"), none, to[:]},
		{libraryKey(t, e, z, "wrapp"), none, to[:]},
		{libraryKey(t, e, z, "wrap\x00"), none, to[:]},
		{libraryKey(t, e, z, "\x04wrap"), none, to[:]},
		{api.Num(long[32:]), none, to[:]},
		{right, api.Nonce{1}, to[:]},
		{right, api.Nonce{11: 1}, to[:]},
		{right, api.Nonce(e[:12]), to[:]},
		{right, none, nil},
		{right, none, e[:]},
		{right, none, z[:]},
		{right, none, secret[:]},
		{right, none, high[:]},
		{right, none, to[:31]},
		{right, none, append(to[:], 0)},
		{right, none, joined(to, e[:])},
		{right, none, joined(e, to[:])},
		{right, none, []byte("wrap")},
	} {
		b := joined(e, aead.Seal(x.under, x.nonce, key[:], x.beside))
		refuses(t, "the rule "+strconv.Itoa(i), secret, b, api.ErrTag)
	}
}

// The public key at the front counts as it stands, even where it isn't reduced or has the highest bit.
func TestUnwrapOfOtherPublicKeys(t *testing.T) {
	l := fronts(t)
	each(len(l), func(i int) {
		secret, key, e := numDrawn(uint64(4100+i)), numDrawn(uint64(4300+i)), l[i]
		to, z := libraryPublic(t, secret), libraryShared(t, secret, e)
		b := joined(e, aead.Seal(libraryKey(t, e, z, "wrap"), api.Nonce{}, key[:], to[:]))
		unwraps(t, "a public key as it stands", secret, b, key)
		refuses(t, "the same, with the highest bit turned", secret, joined(turned(e, 255), b[32:]), api.ErrTag)
	})
}

func TestUnwrapOfDrawnBytes(t *testing.T) {
	each(200, func(i int) {
		refuses(t, "drawn bytes", numDrawn(uint64(5000+i)), drawn(uint64(5500+i), 80), api.ErrTag)
	})
}

func TestArgumentsAreLeft(t *testing.T) {
	secret, draw, key := numDrawn(47), numDrawn(48), numDrawn(49)
	to := ladder.Public(secret)
	want := ruled(t, to, draw, key)
	room := append(slices.Clone(want), drawn(50, 60)...)
	kept := slices.Clone(room)
	unwraps(t, "with room behind it", secret, room[:80], key)
	refuses(t, "by another secret", draw, room[:80], api.ErrTag)
	refuses(t, "too long", secret, room[:81], api.ErrByte)
	refuses(t, "with a zero at the front", secret, make([]byte, 80), api.ErrKey)
	wraps(t, "once more", to, draw, key, want)
	if !bytes.Equal(room, kept) || secret != numDrawn(47) || draw != numDrawn(48) || key != numDrawn(49) {
		t.Errorf("P1402 (P102): an argument was changed: %x", room)
	}
	clear(room)
	unwraps(t, "after its bytes are cleared elsewhere", secret, want, key)
	refuses(t, "cleared", secret, room[:80], api.ErrKey)
}

func TestAnswersAreNew(t *testing.T) {
	secret, draw, key := numDrawn(51), numDrawn(52), numDrawn(53)
	to := ladder.Public(secret)
	want := ruled(t, to, draw, key)
	first, _ := Wrap(to, draw, key)
	second, _ := Wrap(to, draw, key)
	clear(first[:cap(first)])
	if !bytes.Equal(second, want) {
		t.Errorf("P1402 (P102): an answer is shared: %x", second)
	}
	if rest := second[len(second):cap(second)]; !bytes.Equal(rest, make([]byte, len(rest))) {
		t.Errorf("P1402 (P102): behind an answer stands %x", rest)
	}
	got, _ := Unwrap(secret, want)
	clear(got[:])
	unwraps(t, "after an answer is cleared", secret, want, key)
	wraps(t, "after an answer is cleared", to, draw, key, want)
}

// answers are what both functions tell of the same numbers.
type answers struct {
	b      string
	key    api.Num
	wrong  api.Num
	errors [3]api.Errno
}

func all(secret, to, draw, key api.Num) answers {
	var r answers
	b, e := Wrap(to, draw, key)
	r.b, r.errors[0] = string(b), e
	r.key, r.errors[1] = Unwrap(secret, b)
	r.wrong, r.errors[2] = Unwrap(draw, b)
	return r
}

func TestAnswersHangOnTheArgumentsOnly(t *testing.T) {
	const n = 40
	of := func(i int) answers {
		secret := numDrawn(uint64(6000 + i))
		to := ladder.Public(secret)
		if i%4 == 0 {
			to = api.Num{byte(i / 4 % 2)}
		}
		return all(secret, to, numDrawn(uint64(6100+i)), numDrawn(uint64(6200+i)))
	}
	var first, again [n]answers
	for i := range first {
		first[i] = of(i)
	}
	each(n, func(i int) { again[i] = of(n - 1 - i) })
	for i := range first {
		if first[i] != again[n-1-i] {
			t.Errorf("P1402 (P102): %d: %v, and then %v", i, first[i], again[n-1-i])
		}
		want := [3]api.Errno{api.OK, api.OK, api.ErrTag}
		if i%4 == 0 {
			want = [3]api.Errno{api.ErrKey, api.ErrByte, api.ErrByte}
		}
		if first[i].errors != want {
			t.Errorf("P1401: %d: the errors %v, want %v", i, first[i].errors, want)
		}
	}
}

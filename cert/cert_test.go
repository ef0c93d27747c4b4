package cert

import (
	"bytes"
	"crypto/ed25519"
	"encoding/binary"
	"encoding/hex"
	"math"
	"math/big"
	"math/rand/v2"
	"slices"
	"strconv"
	"sync"
	"testing"

	"portcullis/api"
	"portcullis/curve"
)

// drawn are n bytes, always the same ones for the same seed.
func drawn(seed uint64, n int) []byte {
	b := make([]byte, n)
	draw := rand.New(rand.NewPCG(16, seed))
	for i := range b {
		b[i] = byte(draw.Uint32())
	}
	return b
}

func numDrawn(seed uint64) api.Num { return api.Num(drawn(seed, 32)) }

func sigDrawn(seed uint64) api.Sig { return api.Sig(drawn(seed, 64)) }

// idDrawn is an ID, of many sizes.
func idDrawn(seed uint64) int {
	draw := rand.New(rand.NewPCG(1616, seed))
	return int(draw.Uint32()>>1) >> draw.IntN(31)
}

func unhex(t *testing.T, text string) []byte {
	t.Helper()
	b, err := hex.DecodeString(text)
	if err != nil {
		t.Fatal(err)
	}
	return b
}

func turned(a api.Num, bit int) api.Num {
	a[bit/8] ^= 1 << (bit % 8)
	return a
}

func sigTurned(a api.Sig, bit int) api.Sig {
	a[bit/8] ^= 1 << (bit % 8)
	return a
}

// each calls f with all numbers below n, at once, because one signature takes long.
func each(n int, f func(i int)) {
	var wait sync.WaitGroup
	next := make(chan int)
	for range 8 {
		wait.Go(func() {
			for i := range next {
				f(i)
			}
		})
	}
	for i := range n {
		next <- i
	}
	close(next)
	wait.Wait()
}

func private(seed api.Num) ed25519.PrivateKey { return ed25519.NewKeyFromSeed(seed[:]) }

// publicOf is the public key of seed, as the library's Ed25519 computes it.
func publicOf(seed api.Num) api.Num { return api.Num(private(seed)[32:]) }

// signed is the signature of all these bytes, as the library's Ed25519 computes it.
func signed(seed api.Num, b ...[]byte) api.Sig {
	return api.Sig(ed25519.Sign(private(seed), slices.Concat(b...)))
}

// verified tells whether the library's Ed25519 takes sig as a signature of all these bytes.
func verified(key api.Num, sig api.Sig, b ...[]byte) bool {
	return ed25519.Verify(key[:], slices.Concat(b...), sig[:])
}

// number is the encoding of id, as chapter 2 tells it.
func number(id int) []byte { return binary.BigEndian.AppendUint64(nil, uint64(id)) }

// ruledCert is what Sign answers where it answers no error, as the chapter tells it.
func ruledCert(root api.Num, id int, key api.Num) api.Cert {
	return api.Cert{ID: id, Key: key, Sig: signed(root, []byte("PCCT"), number(id), key[:])}
}

// ruledStop is what Stop answers where it answers no error, as the chapter tells it.
func ruledStop(root api.Num, id int) api.Stop {
	return api.Stop{ID: id, Sig: signed(root, []byte("PCST"), number(id))}
}

// ruledPack is what PackStop answers where it answers no error, as the chapter tells it.
func ruledPack(s api.Stop) []byte { return slices.Concat([]byte("PCST"), number(s.ID), s.Sig[:]) }

// signs checks that Sign answers what the chapter tells, and that Check takes it.
func signs(t *testing.T, what string, root api.Num, id int, key api.Num) {
	t.Helper()
	want := ruledCert(root, id, key)
	if got, e := Sign(root, id, key); e != api.OK || got != want {
		t.Errorf("P1601: %s: Sign(%x, %d, %x): %x, %d, want %x", what, root, id, key, got, e, want)
	}
	checks(t, what, publicOf(root), want, true)
}

// signsNot checks that Sign answers that error, and nothing beside it.
func signsNot(t *testing.T, what string, root api.Num, id int, key api.Num, want api.Errno) {
	t.Helper()
	if got, e := Sign(root, id, key); e != want || got != (api.Cert{}) {
		t.Errorf("P1601: %s: Sign(%x, %d, %x): %x, %d, want the error %d", what, root, id, key, got, e, want)
	}
}

func checks(t *testing.T, what string, root api.Num, c api.Cert, want bool) {
	t.Helper()
	if got := Check(root, c); got != want {
		t.Errorf("P1601: %s: Check(%x, %x): %v", what, root, c, got)
	}
}

// stops checks that Stop answers what the chapter tells, and that CheckStop takes it.
func stops(t *testing.T, what string, root api.Num, id int) {
	t.Helper()
	want := ruledStop(root, id)
	if got, e := Stop(root, id); e != api.OK || got != want {
		t.Errorf("P1601: %s: Stop(%x, %d): %x, %d, want %x", what, root, id, got, e, want)
	}
	checksStop(t, what, publicOf(root), want, true)
}

func checksStop(t *testing.T, what string, root api.Num, s api.Stop, want bool) {
	t.Helper()
	if got := CheckStop(root, s); got != want {
		t.Errorf("P1601: %s: CheckStop(%x, %x): %v", what, root, s, got)
	}
}

// packs checks that PackStop and ReadStop are each other's way back.
func packs(t *testing.T, what string, s api.Stop, want []byte) {
	t.Helper()
	if got, e := PackStop(s); e != api.OK || !bytes.Equal(got, want) {
		t.Errorf("P1602: %s: PackStop(%x): %x, %d, want %x", what, s, got, e, want)
	}
	if got, e := ReadStop(want); e != api.OK || got != s {
		t.Errorf("P1602: %s: ReadStop(%x): %x, %d, want %x", what, want, got, e, s)
	}
}

// readsNot checks that ReadStop answers ErrByte, and nothing beside it.
func readsNot(t *testing.T, what string, b []byte) {
	t.Helper()
	if got, e := ReadStop(b); e != api.ErrByte || got != (api.Stop{}) {
		t.Errorf("P1602: %s: ReadStop(%x): %x, %d", what, b, got, e)
	}
}

// ids are IDs at which something may go wrong: each bit alone, and what is next to it.
func ids() []int {
	l := []int{0, 5, 100, 0x01020304, 0x7f000000, 0x12345678, math.MaxInt32 - 2}
	for bit := range 32 {
		l = append(l, max(1<<bit-2, 0), max(1<<bit-1, 0), min(1<<bit, math.MaxInt32))
	}
	slices.Sort(l)
	return slices.Compact(l)
}

// noIDs are numbers out of the range of IDs.
func noIDs() []int {
	l := []int{-1, -2, -7, -256, math.MinInt32, math.MinInt32 - 1, math.MinInt32 + 1, math.MinInt, math.MinInt + 7, math.MaxInt}
	for bit := 31; bit < 63; bit++ {
		l = append(l, 1<<bit, 1<<bit+7, 2<<bit-1, -1<<bit, -1<<bit+7)
	}
	return l
}

// near is p + n, where p is the prime of chapter 3, with the highest bit of the 32 bytes above it or not.
func near(n int64, odd bool) api.Num {
	y := new(big.Int).Lsh(big.NewInt(1), 255)
	y.Add(y, big.NewInt(n-19))
	if odd {
		y.SetBit(y, 255, 1)
	}
	var a api.Num
	y.FillBytes(a[:])
	slices.Reverse(a[:])
	return a
}

// points encode points of the curve: among them those of small orders, whose y is 0, 1 and -1.
func points() []api.Num {
	l := []api.Num{{}, {31: 0x80}, {1}, near(-1, false), near(-3, false), near(-3, true), near(-39, true)}
	for _, y := range []byte{3, 4, 5, 6, 9, 10, 14, 15, 16, 18, 19, 21, 39} {
		l = append(l, api.Num{y}, api.Num{0: y, 31: 0x80})
	}
	for i := range uint64(8) {
		l = append(l, publicOf(numDrawn(100+i)))
	}
	return l
}

// noPoints encode none: there is no x for the y, the y isn't reduced, or the x is 0 and its bit isn't.
func noPoints() []api.Num {
	l := []api.Num{{0: 1, 31: 0x80}, near(-1, true), near(-2, false), near(-2, true), near(-38, false)}
	for _, y := range []byte{2, 7, 8, 11, 12, 13, 17, 20, 38} {
		l = append(l, api.Num{y}, api.Num{0: y, 31: 0x80})
	}
	for n := range int64(19) {
		l = append(l, near(n, false), near(n, true))
	}
	return l
}

// example is what another implementation computes.
type example struct {
	root, public string
	id           int
	key          string
	cert, stop   string // the signatures
}

func examples() []example {
	return []example{
		{
			"0000000000000000000000000000000000000000000000000000000000000000",
			"3b6a27bcceb6a42d62a3a8d02a6f0d73653215771de243a63ac048a18b59da29",
			0,
			"0100000000000000000000000000000000000000000000000000000000000000",
			"8ced07d7703f64ff4025667c70b417baba8dd493f39c598ffe6601fa040ff790" +
				"8c8e593a52c0cba02791b844316ee5d237bfeb26f31261dcc1907023aaff4904",
			"0be7c2e35664329cd45a59d9f0214fd35b89ec99d876a7add95987c32094fe74" +
				"a33001137e77e3b43d2f7f758abfedd8afb61e535580fd4461a59cb0e2757a05",
		},
		{
			"ffffffffffffffffffffffffffffffffffffffffffffffffffffffffffffffff",
			"76a1592044a6e4f511265bca73a604d90b0529d1df602be30a19a9257660d1f5",
			2147483647,
			"76a1592044a6e4f511265bca73a604d90b0529d1df602be30a19a9257660d1f5",
			"7688459aed49ad981bd406a35ce10c4b9ec26e157e658c52463377449587317a" +
				"081641678f697337fdd15087c4dd04a40c3d2642f7a2838a7d11ef49a23cff01",
			"ac36575490295e098f12175ce0ef9cb272099e79e42d9926bc4d89acb7cdb4ee" +
				"2e5bb905c4446b3cb1550cf53ca0ff9aa18ac4c8990922159d27eb7812725d0f",
		},
		{
			"0102030405060708090a0b0c0d0e0f101112131415161718191a1b1c1d1e1f20",
			"79b5562e8fe654f94078b112e8a98ba7901f853ae695bed7e0e3910bad049664",
			0x01020304,
			"e7f162a10bec559afea195e4dce84b69568d5d2cb0963eb446c0685e2b17f2f0",
			"54ec6dd922d2bfd4a4607743e7aafe0c85050cc675d3ce2c8d22814d473e15af" +
				"d8e20232158a54f5eb275d7f3e1718625b3b95500cb25e8adb7b2032c91bb009",
			"5bc53babd7584e12beb6b1782739769564585510aba315e293315c06914fd1d7" +
				"3d28926f9e28ae85cfd66da3c47723f377c2ce8a06c65278d6dc73d8440a470c",
		},
		{
			"9d61b19deffd5a60ba844af492ec2cc44449c5697b326919703bac031cae7f60",
			"d75a980182b10ab7d54bfed3c964073a0ee172f3daa62325af021a68f707511a",
			7,
			"3d4017c3e843895a92b70aa74d1b7ebc9c982ccf2ec4968cc0cd55f12af4660c",
			"0338bb8954cbc727ed8d42a38bfb5dcca8f98729c0fb65074eecfb8c5afc68f0" +
				"5006e0fc50deee6e7b39320a85f07eeaf825a2adf4afa688dd4006263f1e8405",
			"717762b4cfaecb67052a7ffb47823f6bb4b7bf049a65c1bda9798db53100e987" +
				"6e08015bf9b4be2ebf7930e84bfe62c1f9aa1143d1ebb74899a60bf781c23e0c",
		},
	}
}

func TestByHand(t *testing.T) {
	for i, x := range examples() {
		what := "the example " + strconv.Itoa(i+1)
		root, public, key := api.Num(unhex(t, x.root)), api.Num(unhex(t, x.public)), api.Num(unhex(t, x.key))
		c, s := api.Cert{ID: x.id, Key: key, Sig: api.Sig(unhex(t, x.cert))}, api.Stop{ID: x.id, Sig: api.Sig(unhex(t, x.stop))}
		signs(t, what, root, x.id, key)
		checks(t, what, public, c, true)
		stops(t, what, root, x.id)
		checksStop(t, what, public, s, true)
		if ruledCert(root, x.id, key) != c || ruledStop(root, x.id) != s || publicOf(root) != public {
			t.Errorf("%s: the rules of this test: %x, %x", what, ruledCert(root, x.id, key), ruledStop(root, x.id))
		}
	}
	packs(t, "the fourth example", api.Stop{ID: 7, Sig: api.Sig(unhex(t, examples()[3].stop))},
		unhex(t, "504353540000000000000007"+examples()[3].stop))
	packs(t, "the greatest ID", api.Stop{ID: 2147483647}, append(unhex(t, "50435354000000007fffffff"), make([]byte, 64)...))
}

// The examples of the chapter.
func TestOfTheChapter(t *testing.T) {
	seed, key := numDrawn(1), curve.Public(numDrawn(2))
	root := curve.Public(seed)
	signsNot(t, "the ID -1 and no point", seed, -1, api.Num{2}, api.ErrArg)
	c, e := Sign(seed, 7, key)
	if e != api.OK || !Check(root, c) {
		t.Errorf("P1601: Check of what Sign answers: %x, %d", c, e)
	}
	c.ID = 8
	checks(t, "another ID", root, c, false)
	if s, e := Stop(seed, 1<<31); e != api.ErrArg || s != (api.Stop{}) {
		t.Errorf("P1601: Stop of 2^31: %x, %d", s, e)
	}
	s, e := Stop(seed, 7)
	if e != api.OK || !CheckStop(root, s) {
		t.Errorf("P1601: CheckStop of what Stop answers: %x, %d", s, e)
	}
	if b, e := PackStop(s); e != api.OK || len(b) != 76 {
		t.Errorf("P1602: PackStop: %x, %d", b, e)
	}
	s.ID = 8
	checksStop(t, "another ID", root, s, false)
	readsNot(t, "no bytes", nil)
}

func TestOfMany(t *testing.T) {
	each(200, func(i int) {
		seed := uint64(1000 + 3*i)
		root, id, key := numDrawn(seed), idDrawn(seed), publicOf(numDrawn(seed+1))
		signs(t, "drawn ones", root, id, key)
		stops(t, "drawn ones", root, id)
		s := api.Stop{ID: id, Sig: sigDrawn(seed + 2)}
		packs(t, "drawn ones", s, ruledPack(s))
	})
}

func TestOfEachID(t *testing.T) {
	root, key := numDrawn(10), publicOf(numDrawn(11))
	l := ids()
	each(len(l), func(i int) {
		signs(t, "an ID", root, l[i], key)
		stops(t, "an ID", root, l[i])
		s := api.Stop{ID: l[i], Sig: sigDrawn(uint64(2000 + i))}
		packs(t, "an ID", s, ruledPack(s))
	})
}

// Nothing is made of a number that is no ID, nor is it taken where the root signed it.
func TestOfNoID(t *testing.T) {
	root, key := numDrawn(12), publicOf(numDrawn(13))
	public := publicOf(root)
	l := noIDs()
	each(len(l), func(i int) {
		id := l[i]
		for _, k := range []api.Num{key, {}, {2}, near(0, false)} {
			signsNot(t, "no ID", root, id, k, api.ErrArg)
		}
		checks(t, "no ID", public, ruledCert(root, id, key), false)
		checksStop(t, "no ID", public, ruledStop(root, id), false)
		if s, e := Stop(root, id); e != api.ErrArg || s != (api.Stop{}) {
			t.Errorf("P1601: Stop of %d: %x, %d", id, s, e)
		}
		for _, s := range []api.Stop{ruledStop(root, id), {ID: id}} {
			if b, e := PackStop(s); e != api.ErrArg || b != nil {
				t.Errorf("P1602: PackStop(%x): %x, %d", s, b, e)
			}
			readsNot(t, "no ID", ruledPack(s))
		}
	})
}

func TestSignOfEachKey(t *testing.T) {
	l, none := points(), noPoints()
	each(len(l), func(i int) { signs(t, "a point", numDrawn(uint64(3000+i)), i, l[i]) })
	each(len(none), func(i int) {
		root := numDrawn(uint64(3100 + i))
		signsNot(t, "no point", root, i, none[i], api.ErrKey)
		signsNot(t, "no point", root, math.MaxInt32, none[i], api.ErrKey)
	})
}

// Check asks of the key only that the root signed it.
func TestCheckOfNoPoint(t *testing.T) {
	none := noPoints()
	each(len(none), func(i int) {
		root := numDrawn(uint64(3200 + i))
		c := ruledCert(root, i, none[i])
		checks(t, "no point", publicOf(root), c, true)
		c.ID++
		checks(t, "no point, and another ID", publicOf(root), c, false)
	})
}

// All bits of the root and of the key count.
func TestSignOfEachBit(t *testing.T) {
	root, id, key := numDrawn(14), 0x2468ace, publicOf(numDrawn(15))
	each(256, func(bit int) {
		signs(t, "a bit of the root turned", turned(root, bit), id, key)
		stops(t, "a bit of the root turned", turned(root, bit), id)
		if other := turned(key, bit); curve.May(other) {
			signs(t, "a bit of the key turned", root, id, other)
		} else {
			signsNot(t, "a bit of the key turned", root, id, other, api.ErrKey)
		}
	})
}

func TestCheckOfEachBit(t *testing.T) {
	root, id, key := numDrawn(16), 0x13579bd, publicOf(numDrawn(17))
	public, c, s := publicOf(root), ruledCert(root, id, key), ruledStop(root, id)
	each(64, func(bit int) {
		other, stop := c, s
		other.ID ^= 1 << bit
		stop.ID ^= 1 << bit
		checks(t, "a bit of the ID turned", public, other, false)
		checksStop(t, "a bit of the ID turned", public, stop, false)
	})
	each(256, func(bit int) {
		other := c
		other.Key = turned(key, bit)
		checks(t, "a bit of the key turned", public, other, false)
		checks(t, "a bit of the root turned", turned(public, bit), c, false)
		checksStop(t, "a bit of the root turned", turned(public, bit), s, false)
	})
	each(512, func(bit int) {
		other, stop := c, s
		other.Sig, stop.Sig = sigTurned(c.Sig, bit), sigTurned(s.Sig, bit)
		checks(t, "a bit of the signature turned", public, other, false)
		checksStop(t, "a bit of the signature turned", public, stop, false)
	})
	checks(t, "nothing turned", public, c, true)
	checksStop(t, "nothing turned", public, s, true)
}

func TestCheckOfOthers(t *testing.T) {
	each(40, func(i int) {
		seed := uint64(4000 + 10*i)
		root, other, id, key := numDrawn(seed), numDrawn(seed+1), idDrawn(seed), publicOf(numDrawn(seed+2))
		public, c, s := publicOf(root), ruledCert(root, id, key), ruledStop(root, id)
		checks(t, "another root", publicOf(other), c, false)
		checks(t, "another root's", public, ruledCert(other, id, key), false)
		checks(t, "the signer's own", public, ruledCert(numDrawn(seed+2), id, key), false)
		checks(t, "the seed for the public key", root, c, false)
		checks(t, "another key's", public, api.Cert{ID: id, Key: key, Sig: ruledCert(root, id, publicOf(other)).Sig}, false)
		checks(t, "another ID's", public, api.Cert{ID: id, Key: key, Sig: ruledCert(root, id^1, key).Sig}, false)
		checks(t, "no signature", public, api.Cert{ID: id, Key: key}, false)
		checks(t, "drawn bytes", public, api.Cert{ID: id, Key: key, Sig: sigDrawn(seed + 3)}, false)
		checksStop(t, "another root", publicOf(other), s, false)
		checksStop(t, "another root's", public, ruledStop(other, id), false)
		checksStop(t, "the seed for the public key", root, s, false)
		checksStop(t, "another ID's", public, api.Stop{ID: id, Sig: ruledStop(root, id^1).Sig}, false)
		checksStop(t, "no signature", public, api.Stop{ID: id}, false)
		checksStop(t, "drawn bytes", public, api.Stop{ID: id, Sig: sigDrawn(seed + 4)}, false)
	})
}

// low is n in the 8 bytes of little-endian order.
func low(n int) []byte { return binary.LittleEndian.AppendUint64(nil, uint64(n)) }

// What the root signed by a neighbour of the chapter's rule, or for another thing, is no certificate and no stop.
func TestCheckOfOtherMessages(t *testing.T) {
	root, id, key := numDrawn(18), 0x1020304, publicOf(numDrawn(19))
	public, n, mark, stop := publicOf(root), number(id), []byte("PCCT"), []byte("PCST")
	certs := [][][]byte{
		{n, key[:]}, {mark, key[:]}, {mark, n}, {mark, n, key[:31]}, {mark, n, key[:], {0}}, {{0}, mark, n, key[:]}, {},
		{mark, key[:], n}, {n, mark, key[:]}, {mark, low(id), key[:]}, {mark, n[4:], key[:]}, {mark, n, low(32), key[:]},
		{mark, n, number(32), key[:]}, {number(4), mark, n, key[:]}, {stop, n, key[:]}, {stop, n}, {[]byte("pcct"), n, key[:]},
		{[]byte("PCM1"), n, key[:]}, {[]byte("PCC"), n, key[:]}, {[]byte("PCCT "), n, key[:]}, {mark, n, mark, key[:]},
		{mark, number(id + 1), key[:]}, {mark, number(id | 1<<32), key[:]}, {mark, n, public[:]}, {mark, n, key[:], public[:]},
	}
	each(len(certs), func(i int) {
		checks(t, "the message "+strconv.Itoa(i), public, api.Cert{ID: id, Key: key, Sig: signed(root, certs[i]...)}, false)
	})
	stops := [][][]byte{
		{n}, {stop}, {}, {stop, n, {0}}, {{0}, stop, n}, {n, stop}, {stop, low(id)}, {stop, n[4:]}, {stop, n[:7]},
		{mark, n}, {mark, n, key[:]}, {stop, n, key[:]}, {stop, n, public[:]}, {number(4), stop, n}, {stop, number(8), n},
		{[]byte("pcst"), n}, {[]byte("PCM1"), n}, {[]byte("PCS"), n}, {[]byte("PCST "), n}, {stop, stop, n}, {stop, n, n},
		{stop, number(id + 1)}, {stop, number(id | 1<<32)},
	}
	each(len(stops), func(i int) {
		checksStop(t, "the message "+strconv.Itoa(i), public, api.Stop{ID: id, Sig: signed(root, stops[i]...)}, false)
	})
}

// Of the root no other thing is asked than curve.Verify asks: under the zero of the group anybody can sign, under another
// point of a small order whoever tries some IDs, and under what is no point nobody.
func TestCheckUnderAnyRoot(t *testing.T) {
	all := api.Sig{0: 1}
	for _, id := range []int{0, 7, math.MaxInt32} {
		checks(t, "the group's zero", api.Num{1}, api.Cert{ID: id, Key: api.Num{2}, Sig: all}, true)
		checksStop(t, "the group's zero", api.Num{1}, api.Stop{ID: id, Sig: all}, true)
	}
	for _, id := range noIDs() {
		checks(t, "the group's zero", api.Num{1}, api.Cert{ID: id, Sig: all}, false)
		checksStop(t, "the group's zero", api.Num{1}, api.Stop{ID: id, Sig: all}, false)
	}
	for _, root := range []api.Num{{}, {31: 0x80}, near(-1, false)} {
		for id := range 20 {
			c, s := api.Cert{ID: id, Key: root, Sig: api.Sig(append(root[:], make([]byte, 32)...))}, api.Stop{ID: id, Sig: all}
			checks(t, "a small order", root, c, verified(root, c.Sig, []byte("PCCT"), number(id), root[:]))
			checksStop(t, "a small order", root, s, verified(root, all, []byte("PCST"), number(id)))
		}
	}
	for _, root := range noPoints() {
		checks(t, "no point", root, api.Cert{ID: 7, Key: root, Sig: all}, false)
		checksStop(t, "no point", root, api.Stop{ID: 7, Sig: all}, false)
	}
}

// above is the signature whose S is greater by q, as chapter 4 writes q.
func above(sig api.Sig) api.Sig {
	q, _ := new(big.Int).SetString("27742317777372353535851937790883648493", 10)
	s := slices.Clone(sig[32:])
	slices.Reverse(s)
	q.Add(q, new(big.Int).Lsh(big.NewInt(1), 252)).Add(q, new(big.Int).SetBytes(s)).FillBytes(s)
	slices.Reverse(s)
	return api.Sig(slices.Concat(sig[:32], s))
}

func TestCheckOfAnotherS(t *testing.T) {
	each(10, func(i int) {
		root, key := numDrawn(uint64(5000+i)), publicOf(numDrawn(uint64(5100+i)))
		c, s := ruledCert(root, i, key), ruledStop(root, i)
		c.Sig, s.Sig = above(c.Sig), above(s.Sig)
		checks(t, "S + q", publicOf(root), c, false)
		checksStop(t, "S + q", publicOf(root), s, false)
	})
}

// Neither looks at the signature: whoever wants to know whether the root signed a stop asks CheckStop.
func TestPackOfAnySignature(t *testing.T) {
	for bit := range 512 {
		s := api.Stop{ID: 7, Sig: sigTurned(api.Sig{}, bit)}
		packs(t, "a signature of one bit", s, ruledPack(s))
	}
	for _, fill := range []byte{0, 0xff, 'P'} {
		s := api.Stop{ID: 7, Sig: api.Sig(bytes.Repeat([]byte{fill}, 64))}
		packs(t, "any signature", s, ruledPack(s))
	}
	packs(t, "nothing", api.Stop{}, append([]byte("PCST"), make([]byte, 72)...))
}

func TestReadStopOfEachBit(t *testing.T) {
	s := api.Stop{ID: 0x5a5a5a5a, Sig: sigDrawn(20)}
	b := ruledPack(s)
	for bit := range 8 * len(b) {
		other, want := slices.Clone(b), s
		other[bit/8] ^= 1 << (bit % 8)
		place := 8*12 - 8 - bit/8*8 + bit%8 // of the ID's bits, the last byte's are the lowest
		switch {
		case bit >= 8*12:
			want.Sig = sigTurned(s.Sig, bit-8*12)
			packs(t, "a bit of the signature turned", want, other)
		case bit >= 8*4 && place < 31:
			want.ID ^= 1 << place
			packs(t, "a bit of the ID turned", want, other)
		default:
			readsNot(t, "the bit "+strconv.Itoa(bit)+" turned", other)
		}
	}
	packs(t, "nothing turned", s, b)
}

func TestReadStopOfOtherLengths(t *testing.T) {
	b := ruledPack(ruledStop(numDrawn(21), 7))
	for n := range 400 {
		if n != 76 {
			readsNot(t, "bytes 0", make([]byte, n))
			readsNot(t, "drawn bytes", append([]byte("PCST"), drawn(22, n)...))
			readsNot(t, "the mark, and bytes 0", append([]byte("PCST"), make([]byte, n)...)[:n])
		}
		readsNot(t, "more", append(slices.Clone(b), make([]byte, n+1)...))
		readsNot(t, "more in front", append(make([]byte, n+1), b...))
	}
	for n := range b {
		readsNot(t, "less", b[:n])
		readsNot(t, "less in front", b[n+1:])
		readsNot(t, "one less between", slices.Delete(slices.Clone(b), n, n+1))
		readsNot(t, "one more between", slices.Insert(slices.Clone(b), n, 0))
	}
	for _, none := range [][]byte{nil, {}, b[:0]} {
		readsNot(t, "no bytes", none)
	}
	readsNot(t, "two of them", append(slices.Clone(b), b...))
	readsNot(t, "many", append(slices.Clone(b), make([]byte, 1<<20)...))
	packs(t, "76 bytes, and more behind them", ruledStop(numDrawn(21), 7), append(slices.Clone(b), b...)[:76])
}

func TestReadStopOfOtherMarks(t *testing.T) {
	rest := ruledPack(ruledStop(numDrawn(23), 7))[4:]
	for _, mark := range []string{
		"PCCT", "PCM1", "pcst", "PCSt", "pCST", "PSCT", "TSCP", "PCS ", " PCS", "PCS\x00", "\x00\x00\x00\x00",
	} {
		readsNot(t, "another mark", append([]byte(mark), rest...))
	}
	readsNot(t, "no mark", rest)
	readsNot(t, "bytes 0", make([]byte, 76))
	readsNot(t, "bytes 255", bytes.Repeat([]byte{0xff}, 76))
	readsNot(t, "drawn bytes", drawn(24, 76))
}

// What is given stays as it is, to the end of its capacity, and what is answered is nobody else's.
func TestMemory(t *testing.T) {
	s := ruledStop(numDrawn(25), 7)
	want := ruledPack(s)
	room := append(slices.Clone(want), drawn(26, 50)...)
	before := slices.Clone(room)
	got, e := ReadStop(room[:76])
	if !bytes.Equal(room, before) {
		t.Errorf("P1603 (P102): ReadStop turns its argument into %x", room)
	}
	clear(room)
	if e != api.OK || got != s {
		t.Errorf("P1603 (P102): what ReadStop answers hangs on bytes that came later: %x, %d", got, e)
	}
	one, _ := PackStop(s)
	two, _ := PackStop(s)
	for i := range one[:cap(one)] {
		one[:cap(one)][i] ^= 0xff
	}
	three, _ := PackStop(s)
	if !bytes.Equal(two, want) || !bytes.Equal(three, want) {
		t.Errorf("P1603 (P102): PackStop answers %x, %x after what it answered was written over", two, three)
	}
	for i := range cap(two) {
		_ = append(two[:i], 'x')
	}
	if got, e := PackStop(s); e != api.OK || !bytes.Equal(got, want) {
		t.Errorf("P1603 (P102): PackStop answers %x, %d after what it answered was written over", got, e)
	}
}

// The same arguments have the same answers, whatever else is called before and beside it.
func TestSameAnswers(t *testing.T) {
	root, key := numDrawn(27), publicOf(numDrawn(28))
	public, c, s := publicOf(root), ruledCert(root, 7, key), ruledStop(root, 7)
	b := ruledPack(s)
	each(64, func(i int) {
		_, _ = Sign(numDrawn(uint64(6000+i)), i-8, numDrawn(uint64(6100+i)))
		_, _ = Stop(numDrawn(uint64(6000+i)), i-8)
		_, _ = ReadStop(drawn(uint64(6200+i), i+20))
		cert, e := Sign(root, 7, key)
		stop, f := Stop(root, 7)
		if cert != c || e != api.OK || stop != s || f != api.OK || !Check(public, c) || !CheckStop(public, s) {
			t.Errorf("P1603 (P102): at the call %d: %x, %x", i, cert, stop)
		}
		packed, e := PackStop(s)
		read, f := ReadStop(b)
		if !bytes.Equal(packed, b) || e != api.OK || read != s || f != api.OK {
			t.Errorf("P1603 (P102): at the call %d: %x, %x", i, packed, read)
		}
	})
}

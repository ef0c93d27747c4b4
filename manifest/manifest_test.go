package manifest

import (
	"bytes"
	"crypto/ed25519"
	"crypto/sha256"
	"encoding/binary"
	"encoding/hex"
	"math"
	"math/big"
	"math/rand/v2"
	"slices"
	"strconv"
	"sync"
	"testing"

	"portcullis/api"
	"portcullis/cert"
	"portcullis/curve"
	"portcullis/sha"
)

// drawn are n bytes, always the same ones for the same seed.
func drawn(seed uint64, n int) []byte {
	b := make([]byte, n)
	draw := rand.New(rand.NewPCG(17, seed))
	for i := range b {
		b[i] = byte(draw.Uint32())
	}
	return b
}

func numDrawn(seed uint64) api.Num { return api.Num(drawn(seed, 32)) }

func sigDrawn(seed uint64) api.Sig { return api.Sig(drawn(seed, 64)) }

// intDrawn is a version or an ID, of many sizes.
func intDrawn(seed uint64) int {
	draw := rand.New(rand.NewPCG(1717, seed))
	return int(draw.Uint32()>>1) >> draw.IntN(31)
}

func unhex(t *testing.T, text string) []byte {
	t.Helper()
	b, err := hex.DecodeString(text)
	if err != nil {
		t.Fatal(err)
	}
	return b
}

// turned is a copy of b with one bit turned.
func turned(b []byte, bit int) []byte {
	b = slices.Clone(b)
	b[bit/8] ^= 1 << (bit % 8)
	return b
}

func numTurned(a api.Num, bit int) api.Num { return api.Num(turned(a[:], bit)) }

func sigTurned(a api.Sig, bit int) api.Sig { return api.Sig(turned(a[:], bit)) }

// each calls f with all numbers below n, at once, because one signature takes long.
func each(n int, f func(i int)) {
	var wait sync.WaitGroup
	next := make(chan int)
	for range 8 {
		wait.Go(func() {
			for i := range next {
				f(i)
			}
		})
	}
	for i := range n {
		next <- i
	}
	close(next)
	wait.Wait()
}

func private(seed api.Num) ed25519.PrivateKey { return ed25519.NewKeyFromSeed(seed[:]) }

// publicOf is the public key of seed, as the library's Ed25519 computes it.
func publicOf(seed api.Num) api.Num { return api.Num(private(seed)[32:]) }

// signed is the signature of all these bytes, as the library's Ed25519 computes it.
func signed(seed api.Num, b ...[]byte) api.Sig {
	return api.Sig(ed25519.Sign(private(seed), slices.Concat(b...)))
}

// number is the encoding of n, as chapter 2 tells it.
func number(n int) []byte { return binary.BigEndian.AppendUint64(nil, uint64(n)) }

// ruledCert is the certificate of a signer, as chapter 16 tells it.
func ruledCert(root api.Num, id int, key api.Num) api.Cert {
	return api.Cert{ID: id, Key: key, Sig: signed(root, []byte("PCCT"), number(id), key[:])}
}

// ruledBody is what Body answers where it answers no error, as the chapter tells it.
func ruledBody(m api.Manifest) []byte {
	return slices.Concat([]byte("PCM1"), number(m.Version), number(m.Blocks), m.Root[:], m.Wrapped,
		number(m.Cert.ID), m.Cert.Key[:], m.Cert.Sig[:])
}

// ruledPack is what Pack answers where it answers no error, as the chapter tells it.
func ruledPack(m api.Manifest) []byte { return append(ruledBody(m), m.Sig[:]...) }

// ruledSign is what Sign answers where it answers no error, as the chapter tells it.
func ruledSign(seed api.Num, m api.Manifest) api.Manifest {
	m.Sig = signed(seed, ruledBody(m))
	return copied(m)
}

func copied(m api.Manifest) api.Manifest {
	m.Wrapped = slices.Clone(m.Wrapped)
	return m
}

// with is a copy of m that change has turned.
func with(m api.Manifest, change func(m *api.Manifest)) api.Manifest {
	m = copied(m)
	change(&m)
	return m
}

func same(a, b api.Manifest) bool {
	return a.Version == b.Version && a.Blocks == b.Blocks && a.Root == b.Root && bytes.Equal(a.Wrapped, b.Wrapped) &&
		a.Cert == b.Cert && a.Sig == b.Sig
}

// The parties to a manifest: the seeds of the root and of the signer.
type parties struct{ root, signer api.Num }

func (p parties) public() api.Num { return publicOf(p.root) }

func partiesDrawn(seed uint64) parties { return parties{numDrawn(seed), numDrawn(seed + 1)} }

// unsigned is a manifest with the certificate of p's signer, whose own signature lacks.
func unsigned(seed uint64, p parties) api.Manifest {
	return api.Manifest{
		Version: intDrawn(seed), Blocks: 1 + int(drawn(seed, 1)[0])%32, Root: numDrawn(seed + 2), Wrapped: drawn(seed+3, 80),
		Cert: ruledCert(p.root, intDrawn(seed+4), publicOf(p.signer)),
	}
}

// whole is a manifest that p's signer signed.
func whole(seed uint64, p parties) api.Manifest { return ruledSign(p.signer, unsigned(seed, p)) }

// lays checks that Body, Pack, Read and Name answer for m what the chapter tells.
func lays(t *testing.T, what string, m api.Manifest) {
	t.Helper()
	body, packed := ruledBody(m), ruledPack(m)
	if got, e := Body(m); e != api.OK || !bytes.Equal(got, body) {
		t.Errorf("P1701: %s: Body(%v): %x, %d, want %x", what, m, got, e, body)
	}
	if got, e := Pack(m); e != api.OK || !bytes.Equal(got, packed) {
		t.Errorf("P1701: %s: Pack(%v): %x, %d, want %x", what, m, got, e, packed)
	}
	if got, e := Read(packed); e != api.OK || !same(got, m) {
		t.Errorf("P1701: %s: Read(%x): %v, %d, want %v", what, packed, got, e, m)
	}
	if got := Name(packed); got != sha256.Sum256(packed) {
		t.Errorf("P1701: %s: Name(%x): %x", what, packed, got)
	}
}

// signs checks that Sign answers what the chapter tells.
func signs(t *testing.T, what string, seed api.Num, m api.Manifest) {
	t.Helper()
	want := ruledSign(seed, m)
	if got, e := Sign(seed, m); e != api.OK || !same(got, want) {
		t.Errorf("P1702: %s: Sign(%x, %v): %v, %d, want %v", what, seed, m, got, e, want)
	}
}

// refuses checks that no call takes m, which is not valid, whoever signed it, and that none answers anything beside ErrArg.
func refuses(t *testing.T, what string, p parties, m api.Manifest) {
	t.Helper()
	if got, e := Body(m); e != api.ErrArg || got != nil {
		t.Errorf("P1701: %s: Body(%v): %x, %d", what, m, got, e)
	}
	if got, e := Pack(m); e != api.ErrArg || got != nil {
		t.Errorf("P1701: %s: Pack(%v): %x, %d", what, m, got, e)
	}
	if got, e := Sign(p.signer, m); e != api.ErrArg || !same(got, api.Manifest{}) || got.Wrapped != nil {
		t.Errorf("P1702: %s: Sign(%x, %v): %v, %d", what, p.signer, m, got, e)
	}
	readsNot(t, what, ruledPack(m))
	checks(t, what, p.public(), m, api.ErrArg)
	checks(t, what, p.public(), ruledSign(p.signer, m), api.ErrArg)
	checks(t, what+", of nobody", api.Num{2}, m, api.ErrArg)
}

// readsNot checks that Read answers ErrByte, and nothing beside it.
func readsNot(t *testing.T, what string, b []byte) {
	t.Helper()
	if got, e := Read(b); e != api.ErrByte || !same(got, api.Manifest{}) || got.Wrapped != nil {
		t.Errorf("P1701: %s: Read(%x): %v, %d", what, b, got, e)
	}
}

func checks(t *testing.T, what string, root api.Num, m api.Manifest, want api.Errno) {
	t.Helper()
	if e := Check(root, m); e != want {
		t.Errorf("P1702: %s: Check(%x, %v): %d, want %d", what, root, m, e, want)
	}
}

// ints are versions and IDs at which something may go wrong: each bit alone, and what is next to it.
func ints() []int {
	l := []int{0, 5, 100, 0x01020304, 0x7f000000, 0x12345678, math.MaxInt32 - 2}
	for bit := range 32 {
		l = append(l, max(1<<bit-2, 0), max(1<<bit-1, 0), min(1<<bit, math.MaxInt32))
	}
	slices.Sort(l)
	return slices.Compact(l)
}

// noInts are numbers out of the range of versions and IDs.
func noInts() []int {
	l := []int{-1, -2, -7, -256, math.MinInt32, math.MinInt32 - 1, math.MinInt32 + 1, math.MinInt, math.MinInt + 7, math.MaxInt}
	for bit := 31; bit < 63; bit++ {
		l = append(l, 1<<bit, 1<<bit+7, 2<<bit-1, -1<<bit, -1<<bit+7)
	}
	return l
}

// noBlocks are no numbers of blocks.
func noBlocks() []int {
	l := []int{0, 33, 34, 40, 63, 64, 96, 127, 128, 255, 256, 257, 1000, 1 << 20}
	return append(l, noInts()...)
}

// noPoints are keys that encode no point: there is no x for the y, the y isn't reduced, or the x is 0 and its bit isn't.
func noPoints() []api.Num {
	p := append([]byte{0xed}, bytes.Repeat([]byte{0xff}, 31)...)
	p[31] = 0x7f
	return []api.Num{{2}, {7}, {8}, {2, 31: 0x80}, {1, 31: 0x80}, api.Num(p), api.Num(bytes.Repeat([]byte{0xff}, 32))}
}

// example is what another implementation computes.
type example struct {
	root, public    string
	signer          string
	version, blocks int
	top, wrapped    string
	id              int
	packed, name    string
}

func examples() []example {
	return []example{
		{
			"0000000000000000000000000000000000000000000000000000000000000000",
			"3b6a27bcceb6a42d62a3a8d02a6f0d73653215771de243a63ac048a18b59da29",
			"0101010101010101010101010101010101010101010101010101010101010101",
			0, 1,
			"0000000000000000000000000000000000000000000000000000000000000000",
			"00000000000000000000000000000000000000000000000000000000000000000000000000000000" +
				"00000000000000000000000000000000000000000000000000000000000000000000000000000000",
			0,
			"50434d31000000000000000000000000000000010000000000000000000000000000000000000000" +
				"00000000000000000000000000000000000000000000000000000000000000000000000000000000" +
				"00000000000000000000000000000000000000000000000000000000000000000000000000000000" +
				"00000000000000000000000000000000000000008a88e3dd7409f195fd52db2d3cba5d72ca6709bf" +
				"1d94121bf3748801b40f6f5c75ca765585aff1608a8e6e844b76b527ef19231c85d87e9496b09e8b" +
				"a0e18f100f17a16cfb1e3ad2931517c815660710faead8ab5f6dfffc3a7eca2ee5da3e05b8e9ae74" +
				"b66582b1e5487d3089fc7a7468715214ff4f1438b3a7369c323d214b51dc4deac93206b7a4f9a4d8" +
				"12a0eddf58b4e9cd647fd6e92261fb9924e86c07",
			"481a0d477e0c08e616b6b4ab3ee5c3218b51e10cd330f77b32ff933d059b98ad",
		},
		{
			"ffffffffffffffffffffffffffffffffffffffffffffffffffffffffffffffff",
			"76a1592044a6e4f511265bca73a604d90b0529d1df602be30a19a9257660d1f5",
			"fefefefefefefefefefefefefefefefefefefefefefefefefefefefefefefefe",
			2147483647, 32,
			"ffffffffffffffffffffffffffffffffffffffffffffffffffffffffffffffff",
			"ffffffffffffffffffffffffffffffffffffffffffffffffffffffffffffffffffffffffffffffff" +
				"ffffffffffffffffffffffffffffffffffffffffffffffffffffffffffffffffffffffffffffffff",
			2147483647,
			"50434d31000000007fffffff0000000000000020ffffffffffffffffffffffffffffffffffffffff" +
				"ffffffffffffffffffffffffffffffffffffffffffffffffffffffffffffffffffffffffffffffff" +
				"ffffffffffffffffffffffffffffffffffffffffffffffffffffffffffffffffffffffffffffffff" +
				"ffffffffffffffffffffffff000000007fffffffca987f7a6cd863424641d4500dc7deba9782533e" +
				"e071c5f00bc300bc85452437263dd42681ed3d321998da05985c970a4135d750592d2768b0c13039" +
				"a16ddfe9d7ea55785e9bda8e5bd6064767ebbe4d77598e1aa24b7260daebe9a202581c00bcc38654" +
				"2f02bd2edd947b0f315e7e1248bf43f807ceedf8efbaa1729ca7b1b49760740926e0f7f57cc37c20" +
				"860573f64ef0bdc9f169f66f76adadf9ba9aee00",
			"95340e222e55970ef94ce348f12061ef0fedd313ca27e71036ad3fc00257c471",
		},
		{
			"0102030405060708090a0b0c0d0e0f101112131415161718191a1b1c1d1e1f20",
			"79b5562e8fe654f94078b112e8a98ba7901f853ae695bed7e0e3910bad049664",
			"9d61b19deffd5a60ba844af492ec2cc44449c5697b326919703bac031cae7f60",
			16909060, 17,
			"404142434445464748494a4b4c4d4e4f505152535455565758595a5b5c5d5e5f",
			"606162636465666768696a6b6c6d6e6f707172737475767778797a7b7c7d7e7f8081828384858687" +
				"88898a8b8c8d8e8f909192939495969798999a9b9c9d9e9fa0a1a2a3a4a5a6a7a8a9aaabacadaeaf",
			84281096,
			"50434d3100000000010203040000000000000011404142434445464748494a4b4c4d4e4f50515253" +
				"5455565758595a5b5c5d5e5f606162636465666768696a6b6c6d6e6f707172737475767778797a7b" +
				"7c7d7e7f808182838485868788898a8b8c8d8e8f909192939495969798999a9b9c9d9e9fa0a1a2a3" +
				"a4a5a6a7a8a9aaabacadaeaf0000000005060708d75a980182b10ab7d54bfed3c964073a0ee172f3" +
				"daa62325af021a68f707511abd66090f79d86923d090559b958bc561e3181a5c4503a478f729777c" +
				"5cbeae11f641bdee8b374779ad889329562f6a9dd6b76f2f6441c61bfd42aad2b304fa01f1c6f2c0" +
				"11c2ee75d899b8770f6c3cf4b76980adab7f020305f5af5ce9363dba93658448c4948d7ca3681b4a" +
				"33d1fd1e8d7b3b5907434b999807ee5d784db30f",
			"15cb820dd6871c1aa8696253865c3f9233c091e9adf8ef191b9fae9988e1240a",
		},
	}
}

func TestByHand(t *testing.T) {
	for i, x := range examples() {
		what := "the example " + strconv.Itoa(i+1)
		root, signer, packed := api.Num(unhex(t, x.root)), api.Num(unhex(t, x.signer)), unhex(t, x.packed)
		c, e := cert.Sign(root, x.id, curve.Public(signer))
		if e != api.OK {
			t.Fatal(e)
		}
		m := api.Manifest{Version: x.version, Blocks: x.blocks, Root: api.Num(unhex(t, x.top)), Wrapped: unhex(t, x.wrapped), Cert: c}
		if body, e := Body(m); e != api.OK || !bytes.Equal(body, packed[:236]) {
			t.Errorf("P1701: %s: Body: %x, %d", what, body, e)
		}
		m, e = Sign(signer, m)
		if e != api.OK || !bytes.Equal(m.Sig[:], packed[236:]) {
			t.Errorf("P1702: %s: Sign: %v, %d", what, m, e)
		}
		if got, e := Pack(m); e != api.OK || !bytes.Equal(got, packed) {
			t.Errorf("P1701: %s: Pack: %x, %d", what, got, e)
		}
		if got, e := Read(packed); e != api.OK || !same(got, m) {
			t.Errorf("P1701: %s: Read: %v, %d", what, got, e)
		}
		if got := Name(packed); got != api.Num(unhex(t, x.name)) {
			t.Errorf("P1701: %s: Name: %x", what, got)
		}
		checks(t, what, api.Num(unhex(t, x.public)), m, api.OK)
		if got := ruledPack(m); !bytes.Equal(got, packed) {
			t.Errorf("%s: the rule of this test: %x", what, got)
		}
	}
}

// The examples of the chapter.
func TestOfTheChapter(t *testing.T) {
	p := partiesDrawn(1)
	m := whole(1, p)
	if b, e := Pack(with(m, func(m *api.Manifest) { m.Blocks = 0 })); e != api.ErrArg || b != nil {
		t.Errorf("P1701: Pack of 0 Blocks: %x, %d", b, e)
	}
	readsNot(t, "no bytes", nil)
	if b, e := Body(with(m, func(m *api.Manifest) { m.Blocks = 33 })); e != api.ErrArg || b != nil {
		t.Errorf("P1701: Body of 33 Blocks: %x, %d", b, e)
	}
	got, e := Sign(p.signer, with(m, func(m *api.Manifest) { m.Version = -1 }))
	if e != api.ErrArg || !same(got, api.Manifest{}) {
		t.Errorf("P1702: Sign of the Version -1: %v, %d", got, e)
	}
	checks(t, "a zero Sig", p.public(), with(m, func(m *api.Manifest) { m.Sig = api.Sig{} }), api.ErrSig)
	b, e := Pack(m)
	if e != api.OK || len(b) != 300 || Name(b) != sha.Sum(b) {
		t.Errorf("P1701: Pack, and Name of it: %x, %d, %x", b, e, Name(b))
	}
	if b, e := Body(m); e != api.OK || len(b) != 236 {
		t.Errorf("P1701: Body: %x, %d", b, e)
	}
}

func TestOfMany(t *testing.T) {
	each(150, func(i int) {
		seed := uint64(1000 + 10*i)
		p := partiesDrawn(seed)
		m := unsigned(seed, p)
		lays(t, "drawn ones", m)
		signs(t, "drawn ones", p.signer, m)
		m.Sig = sigDrawn(seed + 5)
		signs(t, "drawn ones, and a signature", p.signer, m)
		checks(t, "drawn ones, and another signature", p.public(), m, api.ErrSig)
		m = ruledSign(p.signer, m)
		lays(t, "drawn ones, signed", m)
		checks(t, "drawn ones, signed", p.public(), m, api.OK)
	})
}

func TestOfEachNumber(t *testing.T) {
	p := partiesDrawn(2)
	var l []api.Manifest
	for i, n := range ints() {
		m := whole(uint64(2000+10*i), p)
		l = append(l, with(m, func(m *api.Manifest) { m.Version = n }),
			with(m, func(m *api.Manifest) { m.Cert = ruledCert(p.root, n, m.Cert.Key) }))
	}
	for n := range 32 {
		l = append(l, with(whole(uint64(3000+10*n), p), func(m *api.Manifest) { m.Blocks = n + 1 }))
	}
	least := api.Manifest{Blocks: 1, Wrapped: make([]byte, 80), Cert: ruledCert(p.root, 0, publicOf(p.signer))}
	greatest := with(least, func(m *api.Manifest) {
		m.Version, m.Blocks, m.Cert = math.MaxInt32, 32, ruledCert(p.root, math.MaxInt32, m.Cert.Key)
	})
	l = append(l, least, greatest)
	each(len(l), func(i int) {
		lays(t, "a number", l[i])
		signs(t, "a number", p.signer, l[i])
		checks(t, "a number", p.public(), ruledSign(p.signer, l[i]), api.OK)
	})
}

func TestOfNoNumber(t *testing.T) {
	p := partiesDrawn(3)
	m := whole(3, p)
	var l []api.Manifest
	for _, n := range noInts() {
		l = append(l, with(m, func(m *api.Manifest) { m.Version = n }), with(m, func(m *api.Manifest) { m.Cert.ID = n }),
			with(m, func(m *api.Manifest) { m.Cert = ruledCert(p.root, n, m.Cert.Key) }))
	}
	for _, n := range noBlocks() {
		l = append(l, with(m, func(m *api.Manifest) { m.Blocks = n }))
	}
	each(len(l), func(i int) { refuses(t, "no number", p, l[i]) })
}

// The key of an image takes 80 bytes, neither less nor more.
func TestOfNoWrappedKey(t *testing.T) {
	p := partiesDrawn(4)
	m := whole(4, p)
	each(200, func(i int) {
		if i == 80 {
			return
		}
		refuses(t, "drawn bytes", p, with(m, func(m *api.Manifest) { m.Wrapped = drawn(5, i) }))
		refuses(t, "less or more", p, with(m, func(m *api.Manifest) { m.Wrapped = append(m.Wrapped, m.Wrapped...)[:min(i, 160)] }))
	})
	for _, b := range [][]byte{nil, {}, make([]byte, 0, 80), make([]byte, 79, 80), make([]byte, 1<<16+80), make([]byte, 1<<20)} {
		refuses(t, "another length", p, with(m, func(m *api.Manifest) { m.Wrapped = b }))
	}
	for _, b := range [][]byte{make([]byte, 80), make([]byte, 80, 300), bytes.Repeat([]byte{0xff}, 80)} {
		m := with(m, func(m *api.Manifest) { m.Wrapped = b })
		lays(t, "80 bytes", m)
		signs(t, "80 bytes", p.signer, m)
	}
	refuses(t, "nothing", p, api.Manifest{})
}

// Neither of them looks at any signature, or at the key: that is what Check is for.
func TestOfAnySignature(t *testing.T) {
	p := partiesDrawn(6)
	m := whole(6, p)
	each(256, func(bit int) {
		other := with(m, func(m *api.Manifest) {
			m.Root, m.Cert.Key = numTurned(api.Num{}, bit), numTurned(api.Num{}, bit)
			m.Cert.Sig, m.Sig = sigTurned(api.Sig{}, bit), sigTurned(api.Sig{}, 511-bit)
		})
		lays(t, "one bit of each", other)
	})
	for _, key := range noPoints() {
		other := with(m, func(m *api.Manifest) { m.Cert.Key = key })
		lays(t, "no point", other)
		signs(t, "no point", p.signer, other)
	}
	for _, c := range []api.Cert{{}, {ID: 7}, {Sig: sigDrawn(7)}, ruledCert(numDrawn(8), 7, m.Cert.Key)} {
		other := with(m, func(m *api.Manifest) { m.Cert = c })
		lays(t, "a certificate of nobody", other)
		signs(t, "a certificate of nobody", p.signer, other)
		checks(t, "a certificate of nobody", p.public(), ruledSign(p.signer, other), api.ErrSig)
	}
	lays(t, "the least", api.Manifest{Blocks: 1, Wrapped: make([]byte, 80)})
	signs(t, "the least", api.Num{}, api.Manifest{Blocks: 1, Wrapped: make([]byte, 80)})
}

// Sign takes the seed that it is given, and not the signature that the manifest has.
func TestSignOfEachBit(t *testing.T) {
	p := partiesDrawn(9)
	m := whole(9, p)
	each(256, func(bit int) { signs(t, "a bit of the seed turned", numTurned(p.signer, bit), m) })
	each(512, func(bit int) {
		got, e := Sign(p.signer, with(m, func(m *api.Manifest) { m.Sig = sigTurned(m.Sig, bit) }))
		if e != api.OK || !same(got, m) {
			t.Errorf("P1702: Sign after the bit %d of the signature was turned: %v, %d", bit, got, e)
		}
	})
}

// bits are how many bits a manifest has, those of the numbers first.
const bits = 64*3 + 256 + 8*80 + 256 + 512 + 512

// bitTurned tells in which field the bit is that it turns.
func bitTurned(m api.Manifest, bit int) (string, api.Manifest) {
	m = copied(m)
	switch {
	case bit < 64:
		m.Version ^= 1 << bit
		return "Version", m
	case bit < 128:
		m.Blocks ^= 1 << (bit - 64)
		return "Blocks", m
	case bit < 192:
		m.Cert.ID ^= 1 << (bit - 128)
		return "Cert.ID", m
	case bit < 448:
		m.Root = numTurned(m.Root, bit-192)
		return "Root", m
	case bit < 1088:
		m.Wrapped = turned(m.Wrapped, bit-448)
		return "Wrapped", m
	case bit < 1344:
		m.Cert.Key = numTurned(m.Cert.Key, bit-1088)
		return "Cert.Key", m
	case bit < 1856:
		m.Cert.Sig = sigTurned(m.Cert.Sig, bit-1344)
		return "Cert.Sig", m
	}
	m.Sig = sigTurned(m.Sig, bit-1856)
	return "Sig", m
}

// Whatever is turned in a manifest, Check refuses it, and the encoding tells it.
func TestOfEachBit(t *testing.T) {
	p := partiesDrawn(10)
	m := with(unsigned(10, p), func(m *api.Manifest) { m.Version, m.Blocks = 0x5a5a5a5a, 9 })
	m = ruledSign(p.signer, m)
	each(bits, func(bit int) {
		field, other := bitTurned(m, bit)
		what := "a bit of " + field + " turned"
		inRange := other.Version>>31 == 0 && other.Cert.ID>>31 == 0 && other.Blocks >= 1 && other.Blocks <= 32
		if !inRange {
			refuses(t, what, p, other)
			return
		}
		lays(t, what, other)
		checks(t, what, p.public(), other, api.ErrSig)
	})
	each(256, func(bit int) {
		checks(t, "a bit of the root turned", numTurned(p.public(), bit), m, api.ErrSig)
	})
	checks(t, "nothing turned", p.public(), m, api.OK)
}

// Signed anew by the signer, all of it may be turned but the certificate.
func TestCheckOfWhatIsSignedAnew(t *testing.T) {
	p := partiesDrawn(11)
	m := with(unsigned(11, p), func(m *api.Manifest) { m.Version, m.Blocks = 0x5a5a5a5a, 9 })
	each(bits/7, func(i int) {
		field, other := bitTurned(m, 7*i)
		what := "a bit of " + field + " turned, signed anew"
		other = ruledSign(p.signer, other)
		switch {
		case Check(p.public(), other) == api.ErrArg: // TestOfEachBit tells where
		case other.Cert != m.Cert:
			checks(t, what, p.public(), other, api.ErrSig)
		default:
			checks(t, what, p.public(), other, api.OK)
		}
	})
}

func TestCheckOfOthers(t *testing.T) {
	each(30, func(i int) {
		seed := uint64(4000 + 10*i)
		p, q := partiesDrawn(seed), partiesDrawn(seed+5)
		m, other := whole(seed, p), whole(seed+6, p)
		checks(t, "another root", q.public(), m, api.ErrSig)
		checks(t, "the seed for the public key", p.root, m, api.ErrSig)
		checks(t, "the signer for the root", m.Cert.Key, m, api.ErrSig)
		checks(t, "another signer's", p.public(), ruledSign(q.signer, m), api.ErrSig)
		checks(t, "the root's own", p.public(), ruledSign(p.root, m), api.ErrSig)
		checks(t, "another manifest's", p.public(), with(m, func(m *api.Manifest) { m.Sig = other.Sig }), api.ErrSig)
		checks(t, "another manifest's certificate", p.public(), with(m, func(m *api.Manifest) { m.Cert = other.Cert }), api.ErrSig)
		checks(t, "the certificate's", p.public(), with(m, func(m *api.Manifest) { m.Sig = m.Cert.Sig }), api.ErrSig)
		checks(t, "no signature", p.public(), with(m, func(m *api.Manifest) { m.Sig = api.Sig{} }), api.ErrSig)
		checks(t, "drawn bytes", p.public(), with(m, func(m *api.Manifest) { m.Sig = sigDrawn(seed) }), api.ErrSig)
		self := with(m, func(m *api.Manifest) { m.Cert = ruledCert(p.signer, m.Cert.ID, m.Cert.Key) })
		checks(t, "the signer's own certificate", p.public(), ruledSign(p.signer, self), api.ErrSig)
		checks(t, "the signer as its own root", self.Cert.Key, ruledSign(p.signer, self), api.OK)
		foreign := with(m, func(m *api.Manifest) { m.Cert = ruledCert(q.root, m.Cert.ID, m.Cert.Key) })
		checks(t, "another root's certificate", p.public(), ruledSign(p.signer, foreign), api.ErrSig)
		checks(t, "another root's certificate, under it", q.public(), ruledSign(p.signer, foreign), api.OK)
		checks(t, "the root as a signer", p.public(), ruledSign(p.root, with(m, func(m *api.Manifest) {
			m.Cert = ruledCert(p.root, m.Cert.ID, p.public())
		})), api.OK)
		checks(t, "as it was signed", p.public(), m, api.OK)
	})
}

// low is n in the 8 bytes of little-endian order.
func low(n int) []byte { return binary.LittleEndian.AppendUint64(nil, uint64(n)) }

// What the signer signed by a neighbour of the chapter's rule, or for another thing, is no signature of the manifest.
func TestCheckOfOtherMessages(t *testing.T) {
	p := partiesDrawn(12)
	m := unsigned(12, p)
	body, packed := ruledBody(m), ruledPack(m)
	name, digest := sha256.Sum256(packed), sha256.Sum256(body)
	v, n, id, k, mark := number(m.Version), number(m.Blocks), number(m.Cert.ID), m.Cert.Key[:], []byte("PCM1")
	r, w, s := m.Root[:], m.Wrapped, m.Cert.Sig[:]
	l := [][][]byte{
		{}, {packed}, {body, {0}}, {{0}, body}, {body[4:]}, {body[:235]}, {body[:172]}, {body[:132]}, {body[:52]},
		{digest[:]}, {name[:]},
		{[]byte("PCM0"), body[4:]}, {[]byte("PCM"), body[4:]}, {[]byte("pcm1"), body[4:]}, {[]byte("PCM1 "), body[4:]},
		{[]byte("PCCT"), body[4:]}, {[]byte("PCST"), body[4:]}, {mark, body}, {number(236), body}, {number(4), body},
		{mark, n, v, r, w, id, k, s}, {mark, v, n, w, r, id, k, s}, {mark, v, n, r, w, k, id, s}, {mark, v, n, r, w, id, s, k},
		{mark, id, k, s, v, n, r, w}, {mark, v, n, r, id, k, s, w}, {mark, v, n, w, id, k, s}, {mark, v, n, r, id, k, s},
		{mark, v, n, r, w}, {mark, v, n, r, w, id}, {mark, v, n, r, w, k, s}, {mark, v, n, r, w, id, k}, {mark, v, n, r, w, id, s},
		{mark, n, r, w, id, k, s}, {mark, v, r, w, id, k, s}, {v, n, r, w, id, k, s, mark}, {mark, v, n, r, number(80), w, id, k, s},
		{mark, low(m.Version), low(m.Blocks), r, w, low(m.Cert.ID), k, s}, {mark, v[4:], n[4:], r, w, id[4:], k, s},
		{[]byte("PCCT"), id, k}, {[]byte("PCST"), id},
	}
	each(len(l), func(i int) {
		other := with(m, func(m *api.Manifest) { m.Sig = signed(p.signer, l[i]...) })
		checks(t, "the message "+strconv.Itoa(i), p.public(), other, api.ErrSig)
	})
	checks(t, "the body", p.public(), with(m, func(m *api.Manifest) { m.Sig = signed(p.signer, body) }), api.OK)
}

// Of the keys no other thing is asked than curve.Verify asks: by the zero of the group anybody can sign, and by what is no
// point nobody can, though the root may have named it a signer's.
func TestCheckUnderAnyKey(t *testing.T) {
	p := partiesDrawn(13)
	all := api.Sig{0: 1}
	m := with(unsigned(13, p), func(m *api.Manifest) { m.Cert, m.Sig = ruledCert(p.root, 7, api.Num{1}), all })
	checks(t, "the group's zero", p.public(), m, api.OK)
	checks(t, "the group's zero, not named", p.public(), with(m, func(m *api.Manifest) { m.Cert.ID = 8 }), api.ErrSig)
	checks(t, "the group's zero as root", api.Num{1}, ruledSign(p.signer, with(m, func(m *api.Manifest) {
		m.Cert = api.Cert{ID: 7, Key: publicOf(p.signer), Sig: all}
	})), api.OK)
	for _, key := range noPoints() {
		other := with(m, func(m *api.Manifest) { m.Cert = ruledCert(p.root, 7, key) })
		checks(t, "no point", p.public(), other, api.ErrSig)
		checks(t, "no point, signed", p.public(), ruledSign(p.signer, other), api.ErrSig)
		checks(t, "no point as root", key, ruledSign(p.signer, unsigned(13, p)), api.ErrSig)
	}
}

// above is the signature whose S is greater by q, as chapter 4 writes q.
func above(sig api.Sig) api.Sig {
	q, _ := new(big.Int).SetString("27742317777372353535851937790883648493", 10)
	s := slices.Clone(sig[32:])
	slices.Reverse(s)
	q.Add(q, new(big.Int).Lsh(big.NewInt(1), 252)).Add(q, new(big.Int).SetBytes(s)).FillBytes(s)
	slices.Reverse(s)
	return api.Sig(slices.Concat(sig[:32], s))
}

func TestCheckOfAnotherS(t *testing.T) {
	each(10, func(i int) {
		p := partiesDrawn(uint64(5000 + 10*i))
		m := whole(uint64(5000+10*i), p)
		checks(t, "S + q", p.public(), with(m, func(m *api.Manifest) { m.Sig = above(m.Sig) }), api.ErrSig)
		other := with(m, func(m *api.Manifest) { m.Cert.Sig = above(m.Cert.Sig) })
		checks(t, "S + q of the certificate", p.public(), ruledSign(p.signer, other), api.ErrSig)
	})
}

// Each byte of an encoding is one field's: turned, it is the encoding of another manifest, or of none.
func TestReadOfEachBit(t *testing.T) {
	p := partiesDrawn(14)
	m := with(whole(14, p), func(m *api.Manifest) { m.Version, m.Blocks = 0x5a5a5a5a, 9 })
	b := ruledPack(m)
	for bit := range 8 * len(b) {
		other := turned(b, bit)
		got, e := Read(other)
		if e != api.OK {
			readsNot(t, "the bit "+strconv.Itoa(bit)+" turned", other)
			continue
		}
		if back, e := Pack(got); e != api.OK || !bytes.Equal(back, other) || !bytes.Equal(ruledPack(got), other) {
			t.Errorf("P1701: Read(%x): %v, whose encoding is %x, %d", other, got, back, e)
		}
	}
	for bit := range bits {
		if _, other := bitTurned(m, bit); bit >= 64*3 {
			lays(t, "a bit turned", other)
		}
	}
	for i := range 4 * 8 {
		readsNot(t, "a bit of the mark turned", turned(b, i))
	}
	for _, place := range []int{4, 12, 132} { // where the numbers begin
		for i := range 4*8 + 1 {
			bit := 8*place + i
			if i == 4*8 {
				bit += 7 // the highest of those that a number of 32 bits has
			}
			readsNot(t, "a high bit of a number turned", turned(b, bit))
		}
	}
}

func TestReadOfOtherLengths(t *testing.T) {
	b := ruledPack(whole(15, partiesDrawn(15)))
	for n := range 700 {
		if n != 300 {
			readsNot(t, "bytes 0", make([]byte, n))
			readsNot(t, "the mark, and bytes 0", append([]byte("PCM1"), make([]byte, n)...)[:n])
			readsNot(t, "less or more", slices.Concat(b, b, b)[:n])
		}
		readsNot(t, "the mark, and drawn bytes", append([]byte("PCM1"), drawn(16, n)...))
		readsNot(t, "more", append(slices.Clone(b), make([]byte, n+1)...))
		readsNot(t, "more in front", append(make([]byte, n+1), b...))
	}
	for n := range b {
		readsNot(t, "less", b[:n])
		readsNot(t, "less in front", b[n+1:])
		readsNot(t, "one less between", slices.Delete(slices.Clone(b), n, n+1))
		readsNot(t, "one more between", slices.Insert(slices.Clone(b), n, 0))
	}
	for _, none := range [][]byte{nil, {}, b[:0]} {
		readsNot(t, "no bytes", none)
	}
	readsNot(t, "the body", b[:236])
	readsNot(t, "two of them", append(slices.Clone(b), b...))
	readsNot(t, "many", append(slices.Clone(b), make([]byte, 1<<20)...))
	lays(t, "as it was", whole(15, partiesDrawn(15)))
}

func TestReadOfOtherMarks(t *testing.T) {
	rest := ruledPack(whole(17, partiesDrawn(17)))[4:]
	for _, mark := range []string{
		"PCCT", "PCST", "pcm1", "PCm1", "PCM0", "PCM2", "PCM ", "PMC1", "1MCP", "PCM\x00", "PCM\x01", " PCM", "\x00\x00\x00\x00",
	} {
		readsNot(t, "another mark", append([]byte(mark), rest...))
	}
	readsNot(t, "no mark", rest)
	readsNot(t, "bytes 0", make([]byte, 300))
	readsNot(t, "bytes 255", bytes.Repeat([]byte{0xff}, 300))
	readsNot(t, "drawn bytes", drawn(18, 300))
}

// A name is told of any bytes, whether they encode a manifest or not.
func TestNameOfAnyBytes(t *testing.T) {
	for n := range 700 {
		b := drawn(uint64(6000+n), n)
		if got := Name(b); got != sha256.Sum256(b) {
			t.Errorf("P1701: Name of %d bytes: %x", n, got)
		}
	}
	if Name(nil) != sha256.Sum256(nil) || Name(nil) != Name([]byte{}) {
		t.Errorf("P1701: Name of no bytes: %x", Name(nil))
	}
	b := ruledPack(whole(19, partiesDrawn(19)))
	names := map[api.Num]int{Name(b): -1}
	for bit := range 8 * len(b) {
		name := Name(turned(b, bit))
		if name != sha256.Sum256(turned(b, bit)) {
			t.Errorf("P1701: Name after the bit %d was turned: %x", bit, name)
		}
		names[name] = bit
	}
	if len(names) != 8*len(b)+1 {
		t.Errorf("P1701: %d names", len(names))
	}
}

// What is given stays as it is, to the end of its capacity.
func TestArguments(t *testing.T) {
	p := partiesDrawn(20)
	m := whole(20, p)
	room := append(slices.Clone(m.Wrapped), drawn(21, 400)...)
	before := slices.Clone(room)
	m.Wrapped = room[:80]
	_, _ = Pack(m)
	_, _ = Body(m)
	_, _ = Sign(p.root, m)
	_ = Check(p.public(), m)
	if !bytes.Equal(room, before) || len(m.Wrapped) != 80 {
		t.Errorf("P1703 (P102): the wrapped key that was given is turned into %x", room)
	}
	b := append(ruledPack(m), drawn(22, 400)...)
	before = slices.Clone(b)
	_, _ = Read(b[:300])
	_ = Name(b[:300])
	if !bytes.Equal(b, before) {
		t.Errorf("P1703 (P102): the bytes that were given are turned into %x", b)
	}
}

// scribble writes all over what was answered, to the end of its capacity.
func scribble(b []byte) {
	b = b[:cap(b)]
	for i := range b {
		b[i] ^= 0xff
	}
}

// What is answered is nobody else's.
func TestAnswersAreNew(t *testing.T) {
	p := partiesDrawn(23)
	m := whole(23, p)
	want, body, packed := copied(m), ruledBody(m), ruledPack(m)
	given := slices.Clone(packed)
	for range 3 {
		b, _ := Body(m)
		b2, _ := Body(m)
		k, _ := Pack(m)
		k2, _ := Pack(m)
		s, _ := Sign(p.signer, m)
		s2, _ := Sign(p.signer, m)
		r, _ := Read(given)
		r2, _ := Read(given)
		scribble(b)
		scribble(k)
		scribble(s.Wrapped)
		scribble(r.Wrapped)
		if !same(m, want) || !bytes.Equal(given, packed) {
			t.Fatalf("P1703 (P102): what was given hangs on what was answered: %v, %x", m, given)
		}
		if !bytes.Equal(b2, body) || !bytes.Equal(k2, packed) || !same(s2, want) || !same(r2, want) {
			t.Fatalf("P1703 (P102): answers hang on each other: %x, %x, %v, %v", b2, k2, s2, r2)
		}
	}
	s, _ := Sign(p.signer, m)
	r, _ := Read(given)
	b, _ := Body(m)
	scribble(m.Wrapped)
	scribble(given)
	if !same(s, want) || !same(r, want) || !bytes.Equal(b, body) {
		t.Errorf("P1703 (P102): what was answered hangs on what was given: %v, %v, %x", s, r, b)
	}
}

// The same arguments have the same answers, whatever else is called before and beside it.
func TestSameAnswers(t *testing.T) {
	p := partiesDrawn(24)
	m := whole(24, p)
	public, body, packed := p.public(), ruledBody(m), ruledPack(m)
	each(64, func(i int) {
		seed := uint64(7000 + 10*i)
		_, _ = Sign(p.signer, unsigned(seed, partiesDrawn(seed)))
		_, _ = Read(drawn(seed, 290+i))
		_, _ = Pack(with(m, func(m *api.Manifest) { m.Blocks = i }))
		b, e := Body(m)
		k, f := Pack(m)
		if e != api.OK || f != api.OK || !bytes.Equal(b, body) || !bytes.Equal(k, packed) {
			t.Errorf("P1703 (P102): at the call %d: %x, %d, %x, %d", i, b, e, k, f)
		}
		s, e := Sign(p.signer, m)
		r, f := Read(packed)
		if e != api.OK || f != api.OK || !same(s, m) || !same(r, m) || Check(public, m) != api.OK {
			t.Errorf("P1703 (P102): at the call %d: %v, %d, %v, %d", i, s, e, r, f)
		}
	})
}

package image

import (
	"bytes"
	"encoding/binary"
	"encoding/hex"
	"math"
	"math/rand/v2"
	"slices"
	"strconv"
	"sync"
	"testing"

	"portcullis/aead"
	"portcullis/api"
)

// drawn are n bytes, always the same ones for the same seed.
func drawn(seed uint64, n int) []byte {
	b := make([]byte, n)
	draw := rand.New(rand.NewPCG(18, seed))
	for i := range b {
		b[i] = byte(draw.Uint32())
	}
	return b
}

func keyDrawn(seed uint64) api.Num { return api.Num(drawn(seed, 32)) }

// versionDrawn is a version, of any size.
func versionDrawn(seed uint64) int {
	draw := rand.New(rand.NewPCG(1818, seed))
	return int(draw.Uint32()>>1) >> draw.IntN(31)
}

func unhex(t *testing.T, text string) []byte {
	t.Helper()
	b, err := hex.DecodeString(text)
	if err != nil {
		t.Fatal(err)
	}
	return b
}

// turned is a copy of b with one bit turned.
func turned(b []byte, bit int) []byte {
	b = slices.Clone(b)
	b[bit/8] ^= 1 << (bit % 8)
	return b
}

// kinds are some byte strings of n bytes.
func kinds(n int) [][]byte {
	return [][]byte{make([]byte, n), bytes.Repeat([]byte{255}, n), drawn(1, n)}
}

// number is the encoding of n, as chapter 2 tells it.
func number(n int) []byte { return binary.BigEndian.AppendUint64(nil, uint64(n)) }

// ruledNonce is the nonce of the block i, as the chapter tells it.
func ruledNonce(i int) api.Nonce { return api.Nonce(append(make([]byte, 4), number(i)...)) }

// ruledCut is what Cut answers where it answers no error, as the chapter tells it.
func ruledCut(b []byte) [][]byte {
	b = slices.Clone(b)
	for len(b) == 0 || len(b)%64 != 0 {
		b = append(b, 0)
	}
	return slices.Collect(slices.Chunk(b, 64))
}

// ruledSeal is what Seal answers where it answers no error, as the chapter tells it.
func ruledSeal(key api.Num, version, i int, plain []byte) []byte {
	return aead.Seal(key, ruledNonce(i), plain, number(version))
}

// ruledMake is what Make answers where it answers no error, as the chapter tells it.
func ruledMake(key api.Num, version int, b []byte) [][]byte {
	l := ruledCut(b)
	for i, plain := range l {
		l[i] = ruledSeal(key, version, i, plain)
	}
	return l
}

func same(a, b [][]byte) bool { return slices.EqualFunc(a, b, bytes.Equal) }

// seals checks that Seal answers want, and Open of it plain.
func seals(t *testing.T, what string, key api.Num, version, i int, plain, want []byte) {
	t.Helper()
	if got, e := Seal(key, version, i, plain); e != api.OK || !bytes.Equal(got, want) {
		t.Errorf("P1801: %s: Seal(%x, %d, %d, %x): %x, %d, want %x", what, key, version, i, plain, got, e, want)
	}
	if got, e := Open(key, version, i, want); e != api.OK || !bytes.Equal(got, plain) {
		t.Errorf("P1801: %s: Open(%x, %d, %d, %x): %x, %d, want %x", what, key, version, i, want, got, e, plain)
	}
}

// sealsNot checks that Seal answers ErrArg, and nothing beside it.
func sealsNot(t *testing.T, what string, key api.Num, version, i int, plain []byte) {
	t.Helper()
	if got, e := Seal(key, version, i, plain); e != api.ErrArg || got != nil {
		t.Errorf("P1801: %s: Seal(%x, %d, %d, %x): %x, %d", what, key, version, i, plain, got, e)
	}
}

// opensNot checks that Open answers that error, and nothing beside it.
func opensNot(t *testing.T, what string, key api.Num, version, i int, c []byte, want api.Errno) {
	t.Helper()
	if got, e := Open(key, version, i, c); e != want || got != nil {
		t.Errorf("P1801: %s: Open(%x, %d, %d, %x): %x, %d, want the error %d", what, key, version, i, c, got, e, want)
	}
}

// makes checks that Make answers what the chapter tells, and that each of its blocks can be opened.
func makes(t *testing.T, what string, key api.Num, version int, b []byte) {
	t.Helper()
	got, e := Make(key, version, b)
	if e != api.OK || !same(got, ruledMake(key, version, b)) {
		t.Errorf("P1801: %s: Make(%x, %d, %x): %x, %d", what, key, version, b, got, e)
	}
	var all []byte
	for i, c := range got {
		plain, e := Open(key, version, i, c)
		if e != api.OK {
			t.Errorf("P1801: %s: Open of the block %d of Make(%x, %d, %x): %d", what, i, key, version, b, e)
		}
		all = append(all, plain...)
	}
	if !bytes.Equal(all, slices.Concat(ruledCut(b)...)) {
		t.Errorf("P1801: %s: what is opened of Make(%x, %d, %x): %x", what, key, version, b, all)
	}
}

// makesNot checks that Make answers that error, and nothing beside it.
func makesNot(t *testing.T, what string, key api.Num, version int, b []byte, want api.Errno) {
	t.Helper()
	if got, e := Make(key, version, b); e != want || got != nil {
		t.Errorf("P1801: %s: Make(%x, %d, %d bytes): %x, %d, want the error %d", what, key, version, len(b), got, e, want)
	}
}

// versions are versions at which something may go wrong: each bit alone, and what is next to it.
func versions() []int {
	l := []int{0, 5, 100, 0x01020304, 0x7f000000, 0x12345678, math.MaxInt32 - 2}
	for bit := range 32 {
		l = append(l, max(1<<bit-2, 0), max(1<<bit-1, 0), min(1<<bit, math.MaxInt32))
	}
	slices.Sort(l)
	return slices.Compact(l)
}

// noVersions are numbers out of the range of versions.
func noVersions() []int {
	l := []int{-1, -2, -7, -256, math.MinInt32, math.MinInt32 - 1, math.MinInt32 + 1, math.MinInt, math.MinInt + 7, math.MaxInt}
	for bit := 31; bit < 63; bit++ {
		l = append(l, 1<<bit, 1<<bit+7, 2<<bit-1, -1<<bit, -1<<bit+7)
	}
	return l
}

// noIndices are no indices of blocks.
func noIndices() []int {
	l := []int{32, 33, 34, 40, 63, 64, 80, 96, 127, 128, 255, 256, 257, 1000, 1 << 20, math.MaxInt32}
	return append(l, noVersions()...)
}

// indices are all indices of blocks.
func indices() []int {
	var l []int
	for i := range 32 {
		l = append(l, i)
	}
	return l
}

// The answers that another implementation computes.
func TestByHand(t *testing.T) {
	for n, x := range []struct {
		key           string
		version, i    int
		plain, sealed string
	}{
		{
			"0000000000000000000000000000000000000000000000000000000000000000", 0, 0,
			"0000000000000000000000000000000000000000000000000000000000000000" +
				"0000000000000000000000000000000000000000000000000000000000000000",
			"9f07e7be5551387a98ba977c732d080dcb0f29a048e3656912c6533e32ee7aed29b721769ce64e43" +
				"d57133b074d839d531ed1f28510afb45ace10a1f4b794d6f6b2957c636dd5108489e04bdf9022ceb",
		},
		{
			"ffffffffffffffffffffffffffffffffffffffffffffffffffffffffffffffff", 2147483647, 31,
			"ffffffffffffffffffffffffffffffffffffffffffffffffffffffffffffffff" +
				"ffffffffffffffffffffffffffffffffffffffffffffffffffffffffffffffff",
			"95b9df9e16be87a2f1a9590398697e6c66e8e61e754d0b93bff26b0d11169eee62e8e54a1b5c9920" +
				"42c5686dca19de127042a86792d4620cb84fe0e5f4e53edc7078adbc756cee898945379a26b2aa66",
		},
		{
			"0102030405060708090a0b0c0d0e0f101112131415161718191a1b1c1d1e1f20", 16909060, 17,
			"404142434445464748494a4b4c4d4e4f505152535455565758595a5b5c5d5e5f" +
				"606162636465666768696a6b6c6d6e6f707172737475767778797a7b7c7d7e7f",
			"917fffb4b4af1d25d8aba7d91f25c6a61c5307621aaecb4c28f5b19f632908c2a3b6a307051e7162" +
				"06646b1b16385913d34c722d29a6501343358e1bf0c958898469384196b3e4e9266f42bc2772e620",
		},
		{
			"808182838485868788898a8b8c8d8e8f909192939495969798999a9b9c9d9e9f", 5, 1,
			hex.EncodeToString([]byte("a new program, in a block that it fills to the very last byte ..")),
			"1f4eafb7dea73beda50195e5a50c0fe27274bba3086fc5296ee499a8ac1618f78b2f96a100dee375" +
				"b5f385b6e0a9ea2feba28b2666bcc7d5db8eeda404e7f68c7ad542d3367789bbc6c8472c2a1cac7f",
		},
	} {
		what := "the example " + strconv.Itoa(n+1)
		key, plain, sealed := api.Num(unhex(t, x.key)), unhex(t, x.plain), unhex(t, x.sealed)
		seals(t, what, key, x.version, x.i, plain, sealed)
		if got := ruledSeal(key, x.version, x.i, plain); !bytes.Equal(got, sealed) {
			t.Errorf("%s: the rule of this test: %x", what, got)
		}
	}
}

// run are n bytes, each greater by one than the one before it.
func run(first byte, n int) []byte {
	b := make([]byte, n)
	for i := range b {
		b[i] = first + byte(i)
	}
	return b
}

// The blocks that another implementation computes of an image.
func TestMakeByHand(t *testing.T) {
	want := [][]byte{
		unhex(t, "886a7712038c8bc20ccc7c04522d5b9b943ae7bce016799525215c84ded088541a0dcfe6af582115"+
			"9848fbc2bfbe497e36393919dd36c0f788532ca55c49e1da02992e74d53086524332236089d3ebbe"),
		unhex(t, "970932b0f4df639c8976f22c9b1ec8a18b9ea154ef32e80478541f00377d248ab8666d725f621a58"+
			"a1a234b022e5952b002193ae892bba5c70b928a3d8fa3ec15830ba396b1ec68d529f2aed8b4f76f5"),
		unhex(t, "4c0b15e3ac4f68e76c81b588d000d87292381b680e7976d639c804d68c682ab15c07dd990e178c54"+
			"8f649753a39059413ff76645884b56a3be0aad15391485fb2fa760702ff72f7a8a13dd0aa10baaa1"),
	}
	none := unhex(t, "8f627e18088086cc03dc6d1641394e8d8322fea6fb0a648b3a017da6fdf4ad723d25e6cc84740c3b"+
		"b778caf08c8a7c4801010023e60afdc9b7136de71f0da49c30c8236dc29fb48917a59caaefeddffe")
	key, b := api.Num(run(9, 32)), run(7, 130)
	if got, e := Make(key, 77, b); e != api.OK || !same(got, want) {
		t.Errorf("P1801: Make of 130 bytes: %x, %d", got, e)
	}
	if got, e := Make(key, 77, nil); e != api.OK || !same(got, [][]byte{none}) {
		t.Errorf("P1801: Make of no bytes: %x, %d", got, e)
	}
	if got := ruledMake(key, 77, b); !same(got, want) {
		t.Errorf("the rule of this test: %x", got)
	}
}

// The examples of the chapter.
func TestOfTheChapter(t *testing.T) {
	b, key := drawn(2, 65), keyDrawn(3)
	l, e := Cut(b)
	if e != api.OK || len(l) != 2 || !bytes.Equal(l[0], b[:64]) || !bytes.Equal(l[1], append(b[64:65:65], make([]byte, 63)...)) {
		t.Errorf("P1801: Cut of 65 bytes: %x, %d", l, e)
	}
	sealsNot(t, "the index 32", key, 1, 32, b[:64])
	c, e := Seal(key, 1, 2, b[:64])
	if e != api.OK || len(c) != 80 {
		t.Errorf("P1801: Seal: %x, %d", c, e)
	}
	opensNot(t, "another index", key, 1, 3, c, api.ErrTag)
	makesNot(t, "2,049 bytes with the version -2", key, -2, make([]byte, 2049), api.ErrLong)
}

func TestCutOfAnyLength(t *testing.T) {
	for n := range 2049 {
		for _, b := range kinds(n) {
			got, e := Cut(b)
			if e != api.OK || !same(got, ruledCut(b)) || len(got) != max(1, (n+63)/64) {
				t.Fatalf("P1801: Cut of %d bytes: %x, %d", n, got, e)
			}
		}
	}
}

func TestCutOfNoBytes(t *testing.T) {
	zero := [][]byte{make([]byte, 64)}
	for i, none := range [][]byte{nil, {}, make([]byte, 0, 100), drawn(4, 70)[:0]} {
		if got, e := Cut(none); e != api.OK || !same(got, zero) {
			t.Errorf("P1801: %d: Cut of no bytes: %x, %d", i, got, e)
		}
		makes(t, "no bytes", keyDrawn(5), 6, none)
	}
}

// What stands behind the bytes that are given, up to their capacity, is in no block.
func TestCutFillsWithZero(t *testing.T) {
	room := bytes.Repeat([]byte{0xa5}, 3000)
	for n := range 2049 {
		if got, e := Cut(room[:n]); e != api.OK || !same(got, ruledCut(room[:n])) {
			t.Fatalf("P1801: Cut of %d bytes, and more behind them: %x, %d", n, got, e)
		}
	}
}

func TestCutOfTooMany(t *testing.T) {
	for _, n := range []int{2049, 2050, 2111, 2112, 2113, 2560, 4095, 4096, 4097, 1 << 16, 1<<16 + 5, 1 << 24} {
		for _, b := range [][]byte{make([]byte, n), bytes.Repeat([]byte{7}, n)} {
			if got, e := Cut(b); e != api.ErrLong || got != nil {
				t.Errorf("P1801: Cut of %d bytes: %d blocks, %d", n, len(got), e)
			}
			makesNot(t, "too many", keyDrawn(6), 7, b, api.ErrLong)
		}
	}
}

func TestSealOfMany(t *testing.T) {
	for seed := range uint64(2000) {
		key, version, i, plain := keyDrawn(1000+seed), versionDrawn(seed), int(seed*7%32), drawn(4000+seed, 64)
		seals(t, "drawn ones", key, version, i, plain, ruledSeal(key, version, i, plain))
	}
}

func TestSealOfEachNumber(t *testing.T) {
	key := keyDrawn(7)
	for _, version := range versions() {
		for _, i := range indices() {
			for _, plain := range kinds(64) {
				seals(t, "each number", key, version, i, plain, ruledSeal(key, version, i, plain))
			}
		}
	}
	for _, key := range []api.Num{{}, {1}, {31: 1}, {31: 0x80}, api.Num(bytes.Repeat([]byte{255}, 32))} {
		plain := drawn(8, 64)
		seals(t, "another key", key, 5, 6, plain, ruledSeal(key, 5, 6, plain))
	}
}

// No two blocks of an image are encrypted with the same bytes of the key stream, and no version has the tag of another.
func TestSealsAreApart(t *testing.T) {
	key, plain := keyDrawn(9), make([]byte, 64)
	streams, tags := map[string]int{}, map[string]int{}
	for _, i := range indices() {
		for _, version := range versions() {
			c, e := Seal(key, version, i, plain)
			if e != api.OK || len(c) != 80 {
				t.Fatalf("P1801: Seal(%x, %d, %d, %x): %x, %d", key, version, i, plain, c, e)
			}
			streams[string(c[:64])]++
			tags[string(c[64:])]++
		}
	}
	if len(streams) != 32 || len(tags) != 32*len(versions()) {
		t.Errorf("P1801: %d streams and %d tags", len(streams), len(tags))
	}
}

func TestOutOfRange(t *testing.T) {
	key, plain := keyDrawn(10), drawn(11, 64)
	for _, version := range noVersions() {
		sealsNot(t, "no version", key, version, 3, plain)
		opensNot(t, "no version", key, version, 3, ruledSeal(key, version, 3, plain), api.ErrArg)
		for _, n := range []int{0, 1, 64, 65, 2047, 2048} {
			makesNot(t, "no version", key, version, drawn(12, n), api.ErrArg)
		}
		makesNot(t, "no version, and too many bytes", key, version, drawn(12, 2049), api.ErrLong)
	}
	for _, i := range noIndices() {
		for _, version := range []int{0, 5, math.MaxInt32} {
			sealsNot(t, "no index", key, version, i, plain)
			opensNot(t, "no index", key, version, i, ruledSeal(key, version, i, plain), api.ErrArg)
		}
		sealsNot(t, "no index and no version", key, -1, i, plain)
		opensNot(t, "no index and no version", key, 1<<31, i, ruledSeal(key, 1<<31, i, plain), api.ErrArg)
	}
}

// What has another length is no block, whatever else is wrong.
func TestOfOtherLengths(t *testing.T) {
	key, plain, c := keyDrawn(13), drawn(14, 1<<16), ruledSeal(keyDrawn(13), 5, 6, drawn(14, 64))
	lengths := []int{1000, 1 << 10, 2048, 1<<16 - 1, 1 << 16}
	for n := range 300 {
		lengths = append(lengths, n)
	}
	for _, n := range lengths {
		if n != 64 {
			sealsNot(t, "another length", key, 5, 6, plain[:n])
			sealsNot(t, "another length, and no version", key, -1, 6, plain[:n])
			sealsNot(t, "another length, and no index", key, 5, 32, plain[:n])
			opensNot(t, "sealed of another length", key, 5, 6, ruledSeal(key, 5, 6, plain[:n]), api.ErrArg)
		}
		if n != 80 {
			opensNot(t, "another length", key, 5, 6, plain[:n], api.ErrArg)
			opensNot(t, "another length, and no version", key, -1, 6, plain[:n], api.ErrArg)
			opensNot(t, "less or more", key, 5, 6, append(slices.Clone(c), plain...)[:n], api.ErrArg)
		}
	}
	for _, none := range [][]byte{nil, {}, plain[:0]} {
		sealsNot(t, "no bytes", key, 5, 6, none)
		opensNot(t, "no bytes", key, 5, 6, none, api.ErrArg)
	}
	seals(t, "as it was", key, 5, 6, plain[:64], c)
}

func TestOpenOfEachBit(t *testing.T) {
	for seed := range uint64(8) {
		key, version, i, plain := keyDrawn(20+seed), versionDrawn(30+seed), int(seed*9/2), drawn(40+seed, 64)
		c := ruledSeal(key, version, i, plain)
		for bit := range 8 * 80 {
			opensNot(t, "a bit turned", key, version, i, turned(c, bit), api.ErrTag)
		}
		for bit := range 8 * 32 {
			opensNot(t, "a bit of the key turned", api.Num(turned(key[:], bit)), version, i, c, api.ErrTag)
		}
		for bit := range 31 {
			opensNot(t, "a bit of the version turned", key, version^1<<bit, i, c, api.ErrTag)
		}
		for _, other := range indices() {
			if other != i {
				opensNot(t, "another index", key, version, other, c, api.ErrTag)
			}
		}
		seals(t, "as it was", key, version, i, plain, c)
	}
}

// What is wrong with the numbers is told ahead of what is wrong with the tag.
func TestOrderOfErrors(t *testing.T) {
	key := keyDrawn(15)
	for _, c := range kinds(80) {
		opensNot(t, "no block", key, 5, 6, c, api.ErrTag)
		opensNot(t, "no block, and no version", key, -1, 6, c, api.ErrArg)
		opensNot(t, "no block, and no version", key, 1<<31, 6, c, api.ErrArg)
		opensNot(t, "no block, and no index", key, 5, -1, c, api.ErrArg)
		opensNot(t, "no block, and no index", key, 5, 32, c, api.ErrArg)
	}
}

// low is n in the 8 bytes of little-endian order.
func low(n int) []byte { return binary.LittleEndian.AppendUint64(nil, uint64(n)) }

// What is sealed by a neighbour of the chapter's rule is no block.
func TestOpenOfOtherRules(t *testing.T) {
	const version, i = 0x01020304, 5
	key, plain := keyDrawn(16), drawn(17, 64)
	right, beside := ruledNonce(i), number(version)
	for n, x := range []struct {
		nonce  []byte
		beside []byte
	}{
		{append(number(i), 0, 0, 0, 0), beside},
		{append(make([]byte, 4), low(i)...), beside},
		{append(low(i), 0, 0, 0, 0), beside},
		{append([]byte{255, 255, 255, 255}, number(i)...), beside},
		{append(number(version)[4:], number(i)...), beside},
		{append(make([]byte, 4), number(i+1)...), beside},
		{append(make([]byte, 4), number(i*64)...), beside},
		{append(make([]byte, 4), number(version)...), beside},
		{make([]byte, 12), beside},
		{right[:], nil}, {right[:], low(version)}, {right[:], beside[4:]}, {right[:], append(number(version), number(i)...)},
		{right[:], append(number(i), beside...)}, {right[:], number(i)}, {right[:], append(number(8), beside...)},
		{right[:], append(number(version), 0)}, {right[:], []byte(strconv.Itoa(version))}, {right[:], make([]byte, 8)},
	} {
		c := aead.Seal(key, api.Nonce(x.nonce), plain, x.beside)
		opensNot(t, "the rule "+strconv.Itoa(n), key, version, i, c, api.ErrTag)
	}
	seals(t, "the rule of the chapter", key, version, i, plain, aead.Seal(key, right, plain, beside))
}

func TestMakeOfAnyLength(t *testing.T) {
	for n := range 2049 {
		makes(t, strconv.Itoa(n)+" bytes", keyDrawn(50+uint64(n)), versionDrawn(uint64(n)), drawn(3000+uint64(n), n))
	}
	for _, version := range versions() {
		makes(t, "each version", keyDrawn(51), version, drawn(52, 130))
	}
	for _, b := range slices.Concat(kinds(1), kinds(64), kinds(65), kinds(1984), kinds(2048)) {
		makes(t, "the greatest version", keyDrawn(53), math.MaxInt32, b)
		makes(t, "the least version", keyDrawn(54), 0, b)
	}
}

// What is given stays as it is, to the end of its capacity.
func TestArguments(t *testing.T) {
	key, room := keyDrawn(60), drawn(61, 3000)
	c := append(ruledSeal(key, 5, 6, room[:64]), drawn(62, 100)...)
	before, beforeC := slices.Clone(room), slices.Clone(c)
	for _, n := range []int{0, 1, 63, 64, 65, 130, 2047, 2048, 2049} {
		_, _ = Cut(room[:n])
		_, _ = Make(key, 5, room[:n])
		_, _ = Make(key, -5, room[:n])
		_, _ = Seal(key, 5, 6, room[:n])
	}
	_, _ = Open(key, 5, 6, c[:80])
	_, _ = Open(key, 5, 7, c[:80])
	_, _ = Open(key, 5, 6, c)
	if !bytes.Equal(room, before) || !bytes.Equal(c, beforeC) {
		t.Errorf("P1802 (P102): what was given is turned into %x and %x", room, c)
	}
}

// scribble writes all over what was answered, to the end of its capacity.
func scribble(b []byte) {
	b = b[:cap(b)]
	for i := range b {
		b[i] ^= 0xff
	}
}

// apart checks that each block of l is nobody else's memory: neither another block's, to the end of its capacity, nor given's.
func apart(t *testing.T, what string, l, want [][]byte, given []byte) {
	t.Helper()
	before := slices.Clone(given)
	for i := range l {
		if !bytes.Equal(l[i], want[i]) {
			t.Fatalf("P1802 (P102): %s: the block %d hangs on one before it: %x", what, i, l[i])
		}
		scribble(l[i])
	}
	for i := range l {
		scribble(l[i])
		if !bytes.Equal(l[i], want[i]) {
			t.Fatalf("P1802 (P102): %s: the block %d hangs on one behind it: %x", what, i, l[i])
		}
	}
	for i := range l {
		scribble(l[i])
	}
	if !bytes.Equal(given, before) {
		t.Fatalf("P1802 (P102): %s: what was given hangs on what was answered: %x", what, given)
	}
}

// What is answered is nobody else's.
func TestAnswersAreNew(t *testing.T) {
	key := keyDrawn(63)
	for _, n := range []int{0, 1, 63, 64, 65, 128, 1000, 2048} {
		b := drawn(64, n)
		cut, made := ruledCut(b), ruledMake(key, 5, b)
		for range 3 {
			l, _ := Cut(b)
			l2, _ := Cut(b)
			m, _ := Make(key, 5, b)
			m2, _ := Make(key, 5, b)
			apart(t, "Cut", l, cut, b)
			apart(t, "Make", m, made, b)
			clear(l[:cap(l)])
			clear(m[:cap(m)])
			if !same(l2, cut) || !same(m2, made) {
				t.Fatalf("P1802 (P102): answers hang on each other: %x, %x", l2, m2)
			}
		}
		l, _ := Cut(b)
		m, _ := Make(key, 5, b)
		scribble(b)
		if !same(l, cut) || !same(m, made) {
			t.Errorf("P1802 (P102): what was answered hangs on what was given: %x, %x", l, m)
		}
	}
}

func TestBlocksAnsweredAreNew(t *testing.T) {
	key, plain := keyDrawn(65), drawn(66, 64)
	c := ruledSeal(key, 5, 6, plain)
	givenPlain, givenC := slices.Clone(plain), slices.Clone(c)
	for range 3 {
		s, _ := Seal(key, 5, 6, givenPlain)
		s2, _ := Seal(key, 5, 6, givenPlain)
		o, _ := Open(key, 5, 6, givenC)
		o2, _ := Open(key, 5, 6, givenC)
		scribble(s)
		scribble(o)
		if !bytes.Equal(givenPlain, plain) || !bytes.Equal(givenC, c) || !bytes.Equal(s2, c) || !bytes.Equal(o2, plain) {
			t.Fatalf("P1802 (P102): %x, %x, %x, %x", givenPlain, givenC, s2, o2)
		}
	}
	s, _ := Seal(key, 5, 6, givenPlain)
	o, _ := Open(key, 5, 6, givenC)
	scribble(givenPlain)
	scribble(givenC)
	if !bytes.Equal(s, c) || !bytes.Equal(o, plain) {
		t.Errorf("P1802 (P102): what was answered hangs on what was given: %x, %x", s, o)
	}
}

// The same arguments have the same answers, whatever else is called before and beside it.
func TestSameAnswers(t *testing.T) {
	key, b := keyDrawn(67), drawn(68, 200)
	cut, made := ruledCut(b), ruledMake(key, 9, b)
	var wait sync.WaitGroup
	for n := range 64 {
		wait.Go(func() {
			other := drawn(70+uint64(n), 40*n)
			_, _ = Make(keyDrawn(uint64(n)), n, other)
			_, _ = Open(key, 9, n, made[0])
			_, _ = Seal(key, n-1, n, b)
			l, e := Cut(b)
			m, f := Make(key, 9, b)
			if e != api.OK || f != api.OK || !same(l, cut) || !same(m, made) {
				t.Errorf("P1802 (P102): at the call %d: %x, %d, %x, %d", n, l, e, m, f)
			}
			seals(t, "P1802 (P102): at the call "+strconv.Itoa(n), key, 9, n%4, cut[n%4], made[n%4])
		})
	}
	wait.Wait()
}

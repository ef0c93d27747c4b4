package poly

import (
	"bytes"
	"encoding/hex"
	"math/big"
	"math/rand/v2"
	"slices"
	"strings"
	"sync"
	"testing"

	"portcullis/api"
)

// drawn are n bytes, always the same ones for the same seed.
func drawn(seed byte, n int) []byte {
	b := make([]byte, n)
	rand.NewChaCha8([32]byte{10, seed}).Read(b)
	return b
}

// kinds are some byte strings of n bytes.
func kinds(n int) [][]byte {
	return [][]byte{make([]byte, n), bytes.Repeat([]byte{255}, n), bytes.Repeat([]byte{1}, n), drawn(1, n)}
}

// keys are keys of all kinds for r and for s.
func keys() []api.Num {
	var l []api.Num
	for _, r := range append(kinds(16), append([]byte{1}, make([]byte, 15)...), drawn(2, 16)) {
		for _, s := range append(kinds(16), drawn(3, 16)) {
			l = append(l, keyOf(r, s))
		}
	}
	return l
}

func keyOf(r, s []byte) api.Num { return api.Num(slices.Concat(r, s)) }

func unhex(t *testing.T, text string) []byte {
	t.Helper()
	b, err := hex.DecodeString(text)
	if err != nil {
		t.Fatal(err)
	}
	return b
}

// prime is p, made by another arithmetic than the one that is tested.
func prime() *big.Int {
	p := new(big.Int).Lsh(big.NewInt(1), 130)
	return p.Sub(p, big.NewInt(5))
}

// valueOf is the number of bytes of which the low ones stand first.
func valueOf(b []byte) *big.Int {
	high := slices.Clone(b)
	slices.Reverse(high)
	return new(big.Int).SetBytes(high)
}

// bytesOf are the lowest n bytes of x, the low ones first.
func bytesOf(x *big.Int, n int) []byte {
	whole := new(big.Int).Lsh(big.NewInt(1), uint(8*n))
	b := new(big.Int).Mod(x, whole).FillBytes(make([]byte, n))
	slices.Reverse(b)
	return b
}

// clampedValue is r as section 2.5 of the RFC tells it: the mask is written there with its high bytes first.
func clampedValue(key api.Num) *big.Int {
	mask, _ := new(big.Int).SetString("0ffffffc0ffffffc0ffffffc0fffffff", 16)
	return mask.And(mask, valueOf(key[:16]))
}

// ruledSum is what the RFC calls the accumulator, behind the whole message.
func ruledSum(key api.Num, b []byte) *big.Int {
	r, sum := clampedValue(key), new(big.Int)
	for piece := range slices.Chunk(b, 16) {
		sum.Add(sum, valueOf(append(slices.Clone(piece), 1)))
		sum.Mod(sum.Mul(sum, r), prime())
	}
	return sum
}

// ruled is the tag as section 2.5 of the RFC tells it.
func ruled(key api.Num, b []byte) api.Tag {
	sum := ruledSum(key, b)
	return api.Tag(bytesOf(sum.Add(sum, valueOf(key[16:])), 16))
}

// The examples of the RFC: of section 2.5.2 and of the appendix A.3.
func TestSumByHand(t *testing.T) {
	zeros, fulls := strings.Repeat("0", 32), strings.Repeat("f", 32)
	contribution := hex.EncodeToString([]byte("Any submission to the IETF intended by the Contributor for publication as all or " +
		"part of an IETF Internet-Draft or RFC and any statement made within the context of an IETF activity is considered an " +
		"\"IETF Contribution\". Such statements include oral statements in IETF sessions, as well as written and electronic " +
		"communications made at any time or place, which are addressed to"))
	brillig := hex.EncodeToString([]byte("'Twas brillig, and the slithy toves\nDid gyre and gimble in the wabe:\n" +
		"All mimsy were the borogoves,\nAnd the mome raths outgrabe."))
	short := func(text string) string { return text + zeros[len(text):] }
	for i, x := range []struct{ r, s, message, want string }{
		{
			"85d6be7857556d337f4452fe42d506a8", "0103808afb0db2fd4abff6af4149f51b",
			hex.EncodeToString([]byte("Cryptographic Forum Research Group")), "a8061dc1305136c6c22b8baf0c0127a9",
		},
		{zeros, zeros, zeros + zeros + zeros + zeros, zeros},
		{zeros, "36e5f6b5c5e06070f0efca96227a863e", contribution, "36e5f6b5c5e06070f0efca96227a863e"},
		{"36e5f6b5c5e06070f0efca96227a863e", zeros, contribution, "f3477e7cd95417af89a6b8794c310cf0"},
		{"1c9240a5eb55d38af333888604f6b5f0", "473917c1402b80099dca5cbc207075c0", brillig, "4541669a7eaaee61e708dc7cbcc5eb62"},
		{short("02"), zeros, fulls, short("03")},
		{short("02"), fulls, short("02"), short("03")},
		{short("01"), zeros, fulls + "f0" + fulls[2:] + short("11"), short("05")},
		{short("01"), zeros, fulls + "fb" + strings.Repeat("fe", 15) + strings.Repeat("01", 16), zeros},
		{short("02"), zeros, "fd" + fulls[2:], "fa" + fulls[2:]},
		{
			short("010000000000000004"), zeros,
			short("e33594d7505e43b9") + short("3394d7505e4379cd01") + zeros + short("01"),
			short("140000000000000055"),
		},
		{
			short("010000000000000004"), zeros,
			short("e33594d7505e43b9") + short("3394d7505e4379cd01") + zeros, short("13"),
		},
	} {
		key, message := api.Num(unhex(t, x.r+x.s)), unhex(t, x.message)
		if got := Sum(key, message); hex.EncodeToString(got[:]) != x.want {
			t.Errorf("P1001: the example %d: Sum: %x", i+1, got)
		}
		if rule := ruled(key, message); hex.EncodeToString(rule[:]) != x.want {
			t.Errorf("the example %d: the rule of this test: %x", i+1, rule)
		}
	}
}

func TestSumOfNoBytes(t *testing.T) {
	for _, key := range keys() {
		want := api.Tag(key[16:])
		for i, got := range []api.Tag{
			Sum(key), Sum(key, nil), Sum(key, []byte{}), Sum(key, nil, []byte{}, nil),
			Sum(key, make([]byte, 0, 100), drawn(4, 70)[:0]), Sum(key, [][]byte{}...), Sum(key, make([][]byte, 100)...),
		} {
			if got != want {
				t.Errorf("P1001: %d: Sum of no bytes under %x: %x", i, key, got)
			}
		}
	}
}

func TestSumOfAnyLength(t *testing.T) {
	l := keys()
	for n := range 200 {
		for _, b := range kinds(n) {
			for _, key := range l {
				if got := Sum(key, b); got != ruled(key, b) {
					t.Fatalf("P1001: Sum of %d bytes, %x, under %x: %x", n, b, key, got)
				}
			}
		}
	}
	key := api.Num(drawn(5, 32))
	for _, n := range []int{1023, 1024, 1025, 1 << 16, 1<<18 + 1, 1<<20 + 15} {
		for _, b := range kinds(n) {
			if got := Sum(key, b); got != ruled(key, b) {
				t.Errorf("P1001: Sum of %d bytes: %x", n, got)
			}
		}
	}
}

func TestSumOfAnyKeyAndMessage(t *testing.T) {
	draw := rand.New(rand.NewPCG(10, 1))
	for range 20000 {
		b := make([]byte, 32+draw.IntN(100))
		for i := range b {
			// Many bytes 0 and 255, which carry far.
			b[i] = []byte{0, 255, byte(draw.IntN(256))}[draw.IntN(3)]
		}
		key := api.Num(b)
		if got := Sum(key, b[32:]); got != ruled(key, b[32:]) {
			t.Fatalf("P1001: Sum of %x under %x: %x", b[32:], key, got)
		}
	}
}

// The bits of the key that are forbidden in r make no difference, and every other one does.
func TestSumOfEachBitOfTheKey(t *testing.T) {
	forbidden := unhex(t, "000000f0030000f0030000f0030000f0")
	for seed := range byte(4) {
		b := drawn(10+seed, 20+30*int(seed))
		for _, key := range []api.Num{{}, api.Num(bytes.Repeat([]byte{255}, 32)), api.Num(drawn(seed, 32))} {
			plain := Sum(key, b)
			for i := range 256 {
				turned := key
				turned[i/8] ^= 1 << (i % 8)
				got := Sum(turned, b)
				same := i < 128 && forbidden[i/8]>>(i%8)&1 == 1
				if got != ruled(turned, b) || (got == plain) != same {
					t.Errorf("P1001: Sum under %x with the bit %d turned: %x, and %x before", key, i, got, plain)
				}
			}
		}
	}
}

func TestSumOfEachBitOfTheMessage(t *testing.T) {
	key := api.Num(drawn(20, 32))
	for n := range 70 {
		for _, b := range kinds(n) {
			plain := Sum(key, b)
			for i := range 8 * n {
				b[i/8] ^= 1 << (i % 8)
				if got := Sum(key, b); got != ruled(key, b) || got == plain {
					t.Errorf("P1001: Sum of %x with the bit %d turned: %x", b, i, got)
				}
				b[i/8] ^= 1 << (i % 8)
			}
		}
	}
}

// Bytes 0 at the end and how many they are count, although they add nothing to a number.
func TestSumOfBytes0(t *testing.T) {
	key := api.Num(drawn(21, 32))
	for _, front := range [][]byte{nil, drawn(22, 3), drawn(22, 16), {1}, {0, 1}} {
		given := map[api.Tag]int{}
		for n := range 70 {
			b := slices.Concat(front, make([]byte, n))
			got := Sum(key, b)
			if before, ok := given[got]; ok || got != ruled(key, b) {
				t.Errorf("P1001: Sum of %d bytes and %d bytes 0: %x (before: %d)", len(front), n, got, before)
			}
			given[got] = n
		}
	}
}

func TestSumOfPieces(t *testing.T) {
	key, all := api.Num(drawn(23, 32)), drawn(24, 100)
	for n := range all {
		b := all[:n]
		want := ruled(key, b)
		for i := range n + 1 {
			if got := Sum(key, b[:i], b[i:]); got != want {
				t.Errorf("P1001: Sum of %d bytes, cut at %d: %x", n, i, got)
			}
			if got := Sum(key, nil, b[:i/2], b[i/2:i], []byte{}, b[i:], nil); got != want {
				t.Errorf("P1001: Sum of %d bytes, cut at %d and %d: %x", n, i/2, i, got)
			}
		}
		for each := 1; each <= n; each++ {
			if got := Sum(key, slices.Collect(slices.Chunk(b, each))...); got != want {
				t.Errorf("P1001: Sum of %d bytes, %d at a time: %x", n, each, got)
			}
		}
	}
}

// The order counts, and so does how often a piece comes.
func TestSumOfTheSamePieceTwice(t *testing.T) {
	key, a, b := api.Num(drawn(25, 32)), drawn(26, 32), drawn(27, 16)
	given := map[api.Tag]int{}
	for i, l := range [][][]byte{{a, b}, {b, a}, {a}, {a, a}, {a, a, a}, {b, a, b}, {b, b}, {a[:20], a[10:], a[:5]}} {
		got := Sum(key, l...)
		if before, ok := given[got]; ok || got != ruled(key, slices.Concat(l...)) {
			t.Errorf("P1001: the list %d: %x (before: %d)", i, got, before)
		}
		given[got] = i
	}
}

// With r = 1 the sum of the blocks is what they add up to: about p, 2 p and their like it must be reduced, and no
// further. Any s is added behind that, modulo 2^128 alone.
func TestSumNextToP(t *testing.T) {
	one := append([]byte{1}, make([]byte, 15)...)
	for times := int64(1); times <= 3; times++ {
		for k := int64(-12); k <= 12; k++ {
			sum := new(big.Int).Mul(prime(), big.NewInt(times))
			message := blocksOf(sum.Add(sum, big.NewInt(k)))
			key := keyOf(one, make([]byte, 16))
			if want := new(big.Int).Mod(big.NewInt(k), prime()); ruledSum(key, message).Cmp(want) != 0 {
				t.Fatalf("the blocks of this test: %x", message)
			}
			for _, s := range append(kinds(16), one, bytesOf(big.NewInt(-k), 16), bytesOf(big.NewInt(4-k), 16)) {
				key := keyOf(one, s)
				if got := Sum(key, message); got != ruled(key, message) {
					t.Errorf("P1001: Sum of %d p + %d, under %x: %x", times, k, s, got)
				}
			}
		}
	}
}

// blocksOf are whole blocks that, each with its 1 behind it, add up to x.
func blocksOf(x *big.Int) []byte {
	var b []byte
	top := new(big.Int).Lsh(big.NewInt(1), 128)
	last := new(big.Int).Sub(top, big.NewInt(1))
	x = new(big.Int).Set(x)
	// Of n blocks, each adds from 2^128 to 2^129 - 1.
	n := new(big.Int).Div(x, top).Int64()
	x.Sub(x, top.Mul(top, big.NewInt(n)))
	for range n {
		piece := x
		if x.Cmp(last) > 0 {
			piece = last
		}
		b = append(b, bytesOf(piece, 16)...)
		x = new(big.Int).Sub(x, piece)
	}
	return b
}

// Hardly any drawn messages have such a sum, but if a limb was too full at the end, or the sum not reduced, here it shows:
// the last block is made so that the sum, times r, is next to a multiple of p.
func TestSumToSmall(t *testing.T) {
	found := 0
	for seed := range byte(60) {
		key := api.Num(drawn(30, 32*60)[32*int(seed):][:32])
		front := drawn(seed, 16*int(seed%4))
		inverse := new(big.Int).ModInverse(clampedValue(key), prime())
		for k := int64(-40); k <= 40; k++ {
			last := new(big.Int).Mul(inverse, big.NewInt(k))
			last.Mod(last.Sub(last, ruledSum(key, front)), prime())
			piece := bytesOf(last, 17)
			if piece[16] != 1 {
				continue
			}
			found++
			b := slices.Concat(front, piece[:16])
			if want := new(big.Int).Mod(big.NewInt(k), prime()); ruledSum(key, b).Cmp(want) != 0 {
				t.Fatalf("the last block of this test: %x", b)
			}
			for _, s := range [][]byte{make([]byte, 16), key[16:], bytesOf(big.NewInt(-k), 16), bytesOf(big.NewInt(-k-1), 16)} {
				whole := keyOf(key[:16], s)
				if got := Sum(whole, b); got != ruled(whole, b) {
					t.Errorf("P1001: Sum of %x under %x, to %d: %x", b, whole, k, got)
				}
			}
		}
	}
	if found < 500 {
		t.Errorf("only %d messages", found)
	}
}

// valueOfLimbs is the number that limbs stand for, however full they are.
func valueOfLimbs(x limbs) *big.Int {
	sum := new(big.Int)
	for i := len(x) - 1; i >= 0; i-- {
		sum.Add(sum.Lsh(sum, width), new(big.Int).SetUint64(x[i]))
	}
	return sum
}

// fillings are limbs, each of one of these.
func fillings(kinds ...uint64) []limbs {
	var l []limbs
	for _, a := range kinds {
		for _, b := range kinds {
			for _, c := range kinds {
				l = append(l, limbs{a, b, c, a, b}, limbs{a, a, b, b, c}, limbs{c, a, a, a, a})
			}
		}
	}
	return l
}

// Sum answers right only because no limb overflows inside: limbs as full as they may be show that.
func TestFullLimbs(t *testing.T) {
	for _, x := range fillings(0, 1, full, full+1<<7, 2*full+1<<7, 1<<28-1) {
		for _, y := range fillings(0, 1, full-5, full) {
			got := times(x, y)
			product := new(big.Int).Mul(valueOfLimbs(x), valueOfLimbs(y))
			if product.Sub(product, valueOfLimbs(got)); product.Mod(product, prime()).Sign() != 0 {
				t.Fatalf("P1001: %x times %x: %x", x, y, got)
			}
			for i, limb := range got {
				if limb > full+1<<7 || limb > full && i != 1 {
					t.Fatalf("P1001: %x times %x: the limb %d is too full: %x", x, y, i, got)
				}
			}
		}
	}
}

func TestReduced(t *testing.T) {
	double := new(big.Int).Lsh(prime(), 1)
	for _, x := range append(fillings(0, 1, full-5, full-4, full-3, full), fillings(0, full, full+1, full+1<<7)...) {
		if valueOfLimbs(x).Cmp(double) >= 0 {
			continue
		}
		got := reduced(x)
		if valueOfLimbs(got).Cmp(new(big.Int).Mod(valueOfLimbs(x), prime())) != 0 || slices.Max(got[:]) > full {
			t.Errorf("P1001: %x, reduced: %x", x, got)
		}
	}
	for k := int64(-20); k <= 20; k++ {
		for _, from := range []*big.Int{big.NewInt(20), prime(), big.NewInt(0).Sub(double, big.NewInt(21))} {
			n := new(big.Int).Add(from, big.NewInt(k))
			x := limbsOf(block(bytesOf(n, 17)))
			// limbsOf leaves the highest bit out.
			x[4] += new(big.Int).Rsh(n, 130).Uint64() << width
			if got := reduced(x); valueOfLimbs(got).Cmp(n.Mod(n, prime())) != 0 {
				t.Errorf("P1001: %x, reduced: %x", x, got)
			}
		}
	}
}

// Every bit of a block goes to its limb, and back.
func TestLimbs(t *testing.T) {
	for i := range 130 {
		n := new(big.Int).Lsh(big.NewInt(1), uint(i))
		b := block(bytesOf(n, 17))
		x := limbsOf(b)
		if valueOfLimbs(x).Cmp(n) != 0 || slices.Max(x[:]) > full || blockOf(x) != b {
			t.Errorf("P1001: the bit %d: %x, and back %x", i, x, blockOf(x))
		}
	}
	for _, b := range kinds(17) {
		b[16] &= 3
		if x := limbsOf(block(b)); valueOfLimbs(x).Cmp(valueOf(b)) != 0 || blockOf(x) != block(b) {
			t.Errorf("P1001: the block %x: %x, and back %x", b, x, blockOf(x))
		}
	}
}

func TestSumLeavesItsArguments(t *testing.T) {
	for _, n := range []int{0, 1, 15, 16, 17, 31, 32, 33, 100} {
		key, room := api.Num(drawn(40, 32)), drawn(41, 300)
		list := [][]byte{room[:n], room[n:150], {1, 2, 3}}
		kept, keptList := slices.Clone(room), slices.Clone(list)
		first := Sum(key, list[:2]...)
		answer := first
		first[0]++
		if !bytes.Equal(room, kept) || !slices.EqualFunc(list, keptList, bytes.Equal) || key != api.Num(drawn(40, 32)) {
			t.Errorf("P1001 (P102): of %d bytes, an argument was changed", n)
		}
		second := Sum(key, list[:2]...)
		clear(room)
		clear(list)
		if second != answer || Sum(key, kept[:n], kept[n:150]) != answer {
			t.Errorf("P1001 (P102): of %d bytes, the answer was not kept apart", n)
		}
	}
}

func TestSumHangsOnItsArgumentsOnly(t *testing.T) {
	key, message := api.Num(drawn(42, 32)), drawn(43, 400)
	first, again := make([]api.Tag, len(message)), make([]api.Tag, len(message))
	for n := range message {
		first[n] = Sum(key, message[:n], message)
	}
	var wait sync.WaitGroup
	for n := range message {
		wait.Go(func() { again[n] = Sum(key, message[:n], message) })
	}
	wait.Wait()
	for n, got := range first {
		if want := ruled(key, slices.Concat(message[:n], message)); got != want || again[n] != want {
			t.Errorf("P1001 (P102): Sum of %d and 400 bytes: %x, and then %x", n, got, again[n])
		}
	}
}

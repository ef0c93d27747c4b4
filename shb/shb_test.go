package shb

import (
	"bytes"
	"crypto/sha512"
	"encoding/hex"
	"math/rand/v2"
	"slices"
	"strings"
	"sync"
	"testing"

	"portcullis/api"
)

// standard is the digest that the library's implementation computes.
func standard(b ...[]byte) api.Sig {
	h := sha512.New()
	for _, x := range b {
		h.Write(x)
	}
	return api.Sig(h.Sum(nil))
}

// drawn are n bytes, always the same ones for the same seed.
func drawn(seed uint64, n int) []byte {
	draw := rand.New(rand.NewPCG(6, seed))
	b := make([]byte, n)
	for i := range b {
		b[i] = byte(draw.IntN(256))
	}
	return b
}

// kinds are some byte strings of n bytes.
func kinds(n int) [][]byte {
	return [][]byte{make([]byte, n), bytes.Repeat([]byte{255}, n), bytes.Repeat([]byte{0x80}, n), drawn(uint64(n), n), drawn(uint64(n)+1000, n)}
}

// FIPS 180-4 and its examples; the digest of no bytes is that of other implementations.
func TestSumByHand(t *testing.T) {
	for _, x := range []struct{ text, want string }{
		{"", "cf83e1357eefb8bdf1542850d66d8007d620e4050b5715dc83f4a921d36ce9ce47d0d13c5d85f2b0ff8318d2877eec2f63b931bd47417a81a538327af927da3e"},
		{"abc", "ddaf35a193617abacc417349ae20413112e6fa4e89a97ea20a9eeee64b55d39a2192992a274fc1a836ba3c23a3feebbd454d4423643ce80e2a9ac94fa54ca49f"},
		{
			"abcdbcdecdefdefgefghfghighijhijkijkljklmklmnlmnomnopnopq",
			"204a8fc6dda82f0a0ced7beb8e08a41657c16ef468b228a8279be331a703c33596fd15c13b1b07f9aa1d3bea57789ca031ad85c7a71dd70354ec631238ca3445",
		},
		{
			"abcdefghbcdefghicdefghijdefghijkefghijklfghijklmghijklmnhijklmnoijklmnopjklmnopqklmnopqrlmnopqrsmnopqrstnopqrstu",
			"8e959b75dae313da8cf4f72814fc143f8f7779c6eb9f7fa17299aeadb6889018501d289e4900f7e4331b99dec4b5433ac7d329eeb6dd26545e96e55b874be909",
		},
		{strings.Repeat("a", 1000000), "e718483d0ce769644e2e42c7bc15b4638e1f98b13b2044285632a803afa973ebde0ff244877ea60a4cb0432ce577c31beb009c5c2c49aa2e4eadb217ad8cc09b"},
	} {
		got := Sum([]byte(x.text))
		if hex.EncodeToString(got[:]) != x.want {
			t.Errorf("P601: Sum of %d bytes, %.20s: %x", len(x.text), x.text, got)
		}
	}
}

func TestSumOfNoBytes(t *testing.T) {
	want := standard()
	for i, got := range []api.Sig{
		Sum(), Sum(nil), Sum([]byte{}), Sum(nil, nil), Sum([]byte{}, nil, make([]byte, 0, 100)), Sum([][]byte{}...), Sum(make([][]byte, 1000)...),
	} {
		if got != want {
			t.Errorf("P601: %d: no bytes: %x", i, got)
		}
	}
}

func TestSumOfAnyLength(t *testing.T) {
	for n := range 600 {
		for _, b := range kinds(n) {
			if got := Sum(b); got != standard(b) {
				t.Errorf("P601: Sum of %d bytes, %x: %x", n, b, got)
			}
		}
	}
	for _, n := range []int{1 << 12, 1<<16 - 17, 1<<16 - 16, 1<<20 + 1} {
		if b := drawn(1, n); Sum(b) != standard(b) {
			t.Errorf("P601: Sum of %d bytes: %x", n, Sum(b))
		}
	}
}

// Each bit of a block, by itself, goes through all the rounds.
func TestSumOfEachBit(t *testing.T) {
	for n := range 8 * 2 * size {
		b := make([]byte, 2*size)
		b[n/8] = 1 << (n % 8)
		if got := Sum(b); got != standard(b) {
			t.Errorf("P601: Sum of 256 bytes, the bit %d set: %x", n, got)
		}
	}
}

func TestSumOfPieces(t *testing.T) {
	all := drawn(2, 400)
	for _, n := range []int{0, 1, 2, 111, 112, 113, 127, 128, 129, 239, 240, 255, 256, 257, 400} {
		b := all[:n]
		want := standard(b)
		for i := range n + 1 {
			if got := Sum(b[:i], b[i:]); got != want {
				t.Errorf("P601: Sum of %d bytes, cut at %d: %x", n, i, got)
			}
			if got := Sum(nil, b[:i/2], b[i/2:i], []byte{}, b[i:], nil); got != want {
				t.Errorf("P601: Sum of %d bytes, cut at %d and %d: %x", n, i/2, i, got)
			}
		}
		for each := 1; each <= n; each++ {
			if got := Sum(slices.Collect(slices.Chunk(b, each))...); got != want {
				t.Errorf("P601: Sum of %d bytes, %d at a time: %x", n, each, got)
			}
		}
	}
}

// The order counts, and so does how often a piece comes.
func TestSumOfTheSamePieceTwice(t *testing.T) {
	a, b := drawn(3, 100), drawn(4, 33)
	for _, l := range [][][]byte{{a, b}, {b, a}, {a}, {a, a}, {a, a, a}, {b, a, b}, {a[:50], a[25:75], a[50:]}} {
		if got := Sum(l...); got != standard(l...) {
			t.Errorf("P601: %d pieces: %x", len(l), got)
		}
	}
	if Sum(a, b) == Sum(b, a) || Sum(a, a) == Sum(a) {
		t.Error("P601: another message, the same digest")
	}
}

// From 2^29 bytes on the message's length in bits takes more than 32 bits.
func TestSumOfManyBytes(t *testing.T) {
	piece := drawn(5, 1<<20)
	l := make([][]byte, 1<<9, 1<<9+1)
	for i := range l {
		l[i] = piece
	}
	l = append(l, piece[:77])
	if got := Sum(l...); got != standard(l...) {
		t.Errorf("P601: Sum of 2^29 + 77 bytes: %x", got)
	}
}

func TestSumLeavesItsArguments(t *testing.T) {
	for _, n := range []int{0, 1, 111, 112, 127, 128, 129, 200, 256} {
		room := drawn(6, 500)
		list := [][]byte{room[:n], room[n:300], {1, 2, 3}}
		kept, keptList := slices.Clone(room), slices.Clone(list)
		first := Sum(list[:2]...)
		answer := first
		first[0]++
		if !bytes.Equal(room, kept) || !slices.EqualFunc(list, keptList, bytes.Equal) {
			t.Errorf("P601 (P102): of %d bytes, an argument was changed", n)
		}
		second := Sum(list[:2]...)
		clear(room)
		clear(list)
		if second != answer || Sum(kept[:n], kept[n:300]) != answer {
			t.Errorf("P601 (P102): of %d bytes, the answer was not kept apart", n)
		}
	}
}

func TestSumHangsOnItsArgumentsOnly(t *testing.T) {
	message := drawn(7, 400)
	first, again := make([]api.Sig, len(message)), make([]api.Sig, len(message))
	for n := range message {
		first[n] = Sum(message[:n], message)
	}
	var wait sync.WaitGroup
	for n := range message {
		wait.Go(func() { again[n] = Sum(message[:n], message) })
	}
	wait.Wait()
	if !slices.Equal(first, again) {
		t.Error("P601 (P102): another answer to the same arguments")
	}
	for n, got := range first {
		if got != standard(message[:n], message) {
			t.Errorf("P601: Sum of %d and 400 bytes: %x", n, got)
		}
	}
}

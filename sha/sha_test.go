package sha

import (
	"bytes"
	"crypto/sha256"
	"encoding/hex"
	"math/rand/v2"
	"slices"
	"strings"
	"sync"
	"testing"

	"portcullis/api"
)

// standard is the digest that the library's implementation computes.
func standard(b ...[]byte) api.Num {
	h := sha256.New()
	for _, x := range b {
		h.Write(x)
	}
	return api.Num(h.Sum(nil))
}

// drawn are n bytes, always the same ones for the same seed.
func drawn(seed uint64, n int) []byte {
	draw := rand.New(rand.NewPCG(5, seed))
	b := make([]byte, n)
	for i := range b {
		b[i] = byte(draw.IntN(256))
	}
	return b
}

// kinds are some byte strings of n bytes.
func kinds(n int) [][]byte {
	return [][]byte{make([]byte, n), bytes.Repeat([]byte{255}, n), bytes.Repeat([]byte{0x80}, n), drawn(uint64(n), n), drawn(uint64(n)+1000, n)}
}

// FIPS 180-4 and its examples; the digest of no bytes is that of other implementations.
func TestSumByHand(t *testing.T) {
	for _, x := range []struct{ text, want string }{
		{"", "e3b0c44298fc1c149afbf4c8996fb92427ae41e4649b934ca495991b7852b855"},
		{"abc", "ba7816bf8f01cfea414140de5dae2223b00361a396177a9cb410ff61f20015ad"},
		{
			"abcdbcdecdefdefgefghfghighijhijkijkljklmklmnlmnomnopnopq",
			"248d6a61d20638b8e5c026930c3e6039a33ce45964ff2167f6ecedd419db06c1",
		},
		{
			"abcdefghbcdefghicdefghijdefghijkefghijklfghijklmghijklmnhijklmnoijklmnopjklmnopqklmnopqrlmnopqrsmnopqrstnopqrstu",
			"cf5b16a778af8380036ce59e7b0492370b249b11e8f07a51afac45037afee9d1",
		},
		{strings.Repeat("a", 1000000), "cdc76e5c9914fb9281a1c7e284d73e67f1809a48a497200e046d39ccc7112cd0"},
	} {
		got := Sum([]byte(x.text))
		if hex.EncodeToString(got[:]) != x.want {
			t.Errorf("P501: Sum of %d bytes, %.20s: %x", len(x.text), x.text, got)
		}
	}
}

func TestSumOfNoBytes(t *testing.T) {
	want := standard()
	for i, got := range []api.Num{
		Sum(), Sum(nil), Sum([]byte{}), Sum(nil, nil), Sum([]byte{}, nil, make([]byte, 0, 100)), Sum([][]byte{}...), Sum(make([][]byte, 1000)...),
	} {
		if got != want {
			t.Errorf("P501: %d: no bytes: %x", i, got)
		}
	}
}

func TestSumOfAnyLength(t *testing.T) {
	for n := range 600 {
		for _, b := range kinds(n) {
			if got := Sum(b); got != standard(b) {
				t.Errorf("P501: Sum of %d bytes, %x: %x", n, b, got)
			}
		}
	}
	for _, n := range []int{1 << 12, 1<<16 - 9, 1<<16 - 8, 1<<20 + 1} {
		if b := drawn(1, n); Sum(b) != standard(b) {
			t.Errorf("P501: Sum of %d bytes: %x", n, Sum(b))
		}
	}
}

// Each bit of a block, by itself, goes through all the rounds.
func TestSumOfEachBit(t *testing.T) {
	for n := range 8 * 2 * size {
		b := make([]byte, 2*size)
		b[n/8] = 1 << (n % 8)
		if got := Sum(b); got != standard(b) {
			t.Errorf("P501: Sum of 128 bytes, the bit %d set: %x", n, got)
		}
	}
}

func TestSumOfPieces(t *testing.T) {
	all := drawn(2, 200)
	for _, n := range []int{0, 1, 2, 55, 56, 57, 63, 64, 65, 119, 120, 127, 128, 129, 200} {
		b := all[:n]
		want := standard(b)
		for i := range n + 1 {
			if got := Sum(b[:i], b[i:]); got != want {
				t.Errorf("P501: Sum of %d bytes, cut at %d: %x", n, i, got)
			}
			if got := Sum(nil, b[:i/2], b[i/2:i], []byte{}, b[i:], nil); got != want {
				t.Errorf("P501: Sum of %d bytes, cut at %d and %d: %x", n, i/2, i, got)
			}
		}
		for each := 1; each <= n; each++ {
			if got := Sum(slices.Collect(slices.Chunk(b, each))...); got != want {
				t.Errorf("P501: Sum of %d bytes, %d at a time: %x", n, each, got)
			}
		}
	}
}

// The order counts, and so does how often a piece comes.
func TestSumOfTheSamePieceTwice(t *testing.T) {
	a, b := drawn(3, 100), drawn(4, 33)
	for _, l := range [][][]byte{{a, b}, {b, a}, {a}, {a, a}, {a, a, a}, {b, a, b}, {a[:50], a[25:75], a[50:]}} {
		if got := Sum(l...); got != standard(l...) {
			t.Errorf("P501: %d pieces: %x", len(l), got)
		}
	}
	if Sum(a, b) == Sum(b, a) || Sum(a, a) == Sum(a) {
		t.Error("P501: another message, the same digest")
	}
}

// From 2^29 bytes on the message's length in bits takes more than 32 bits.
func TestSumOfManyBytes(t *testing.T) {
	piece := drawn(5, 1<<20)
	l := make([][]byte, 1<<9, 1<<9+1)
	for i := range l {
		l[i] = piece
	}
	l = append(l, piece[:77])
	if got := Sum(l...); got != standard(l...) {
		t.Errorf("P501: Sum of 2^29 + 77 bytes: %x", got)
	}
}

func TestSumLeavesItsArguments(t *testing.T) {
	for _, n := range []int{0, 1, 55, 56, 63, 64, 65, 100, 128} {
		room := drawn(6, 300)
		list := [][]byte{room[:n], room[n:150], {1, 2, 3}}
		kept, keptList := slices.Clone(room), slices.Clone(list)
		first := Sum(list[:2]...)
		answer := first
		first[0]++
		if !bytes.Equal(room, kept) || !slices.EqualFunc(list, keptList, bytes.Equal) {
			t.Errorf("P501 (P102): of %d bytes, an argument was changed", n)
		}
		second := Sum(list[:2]...)
		clear(room)
		clear(list)
		if second != answer || Sum(kept[:n], kept[n:150]) != answer {
			t.Errorf("P501 (P102): of %d bytes, the answer was not kept apart", n)
		}
	}
}

func TestSumHangsOnItsArgumentsOnly(t *testing.T) {
	message := drawn(7, 400)
	first, again := make([]api.Num, len(message)), make([]api.Num, len(message))
	for n := range message {
		first[n] = Sum(message[:n], message)
	}
	var wait sync.WaitGroup
	for n := range message {
		wait.Go(func() { again[n] = Sum(message[:n], message) })
	}
	wait.Wait()
	if !slices.Equal(first, again) {
		t.Error("P501 (P102): another answer to the same arguments")
	}
	for n, got := range first {
		if got != standard(message[:n], message) {
			t.Errorf("P501: Sum of %d and 400 bytes: %x", n, got)
		}
	}
}

package mac

import (
	"bytes"
	"crypto/hmac"
	"crypto/sha256"
	"encoding/hex"
	"math/rand/v2"
	"slices"
	"strings"
	"sync"
	"testing"

	"portcullis/api"
	"portcullis/sha"
)

// standard is the code that the library's implementation computes.
func standard(key []byte, b ...[]byte) api.Num {
	h := hmac.New(sha256.New, key)
	for _, x := range b {
		h.Write(x)
	}
	return api.Num(h.Sum(nil))
}

// drawn are n bytes, always the same ones for the same seed.
func drawn(seed byte, n int) []byte {
	b := make([]byte, n)
	rand.NewChaCha8([32]byte{7, seed}).Read(b)
	return b
}

// kinds are some byte strings of n bytes.
func kinds(n int) [][]byte {
	return [][]byte{
		make([]byte, n), bytes.Repeat([]byte{255}, n), bytes.Repeat([]byte{inner}, n), bytes.Repeat([]byte{outer}, n), drawn(1, n),
	}
}

// The examples of the chapter and of RFC 4231; the code of no bytes is that of other implementations.
func TestSumByHand(t *testing.T) {
	for _, x := range []struct{ key, text, want string }{
		{"", "", "b613679a0814d9ec772f95d778c35fc5ff1697c493715653c6c712144292c5ad"},
		{"Jefe", "what do ya want for nothing?", "5bdcc146bf60754e6a042426089575c75a003f089d2739839dec58b964ec3843"},
		{strings.Repeat("\x0b", 20), "Hi There", "b0344c61d8db38535ca8afceaf0bf12b881dc200c9833da726e9376c2e32cff7"},
		{strings.Repeat("\xaa", 20), strings.Repeat("\xdd", 50), "773ea91e36800e46854db8ebd09181a72959098b3ef8c122d9635514ced565fe"},
		{
			"\x01\x02\x03\x04\x05\x06\x07\x08\x09\x0a\x0b\x0c\x0d\x0e\x0f\x10\x11\x12\x13\x14\x15\x16\x17\x18\x19", strings.Repeat("\xcd", 50),
			"82558a389a443c0ea4cc819899f2083a85f0faa3e578f8077a2e3ff46729665b",
		},
		{strings.Repeat("\x0c", 20), "Test With Truncation", "a3b6167473100ee06e0c796c2955552b"},
		{
			strings.Repeat("\xaa", 131), "Test Using Larger Than Block-Size Key - Hash Key First",
			"60e431591ee0b67f0d8a26aacbf5b77f8e0bc6213728c5140546040f0ee37f54",
		},
		{
			strings.Repeat("\xaa", 131), "This is a test using a larger than block-size key and a larger than block-size data. " +
				"The key needs to be hashed before being used by the HMAC algorithm.",
			"9b09ffa71b942fcb27635fbcd5b0e944bfdc63644f0713938a7f51535c3a35e2",
		},
	} {
		got := Sum([]byte(x.key), []byte(x.text))
		if !strings.HasPrefix(hex.EncodeToString(got[:]), x.want) {
			t.Errorf("P701: Sum of %q under %q: %x", x.text, x.key, got)
		}
	}
}

func TestSumOfNoBytes(t *testing.T) {
	for _, key := range [][]byte{nil, {}, {0}, drawn(2, 32), drawn(2, 64), drawn(2, 65)} {
		want := standard(key)
		for i, got := range []api.Num{
			Sum(key), Sum(key, nil), Sum(key, []byte{}), Sum(key, nil, make([]byte, 0, 100), nil), Sum(key, make([][]byte, 1000)...),
		} {
			if got != want {
				t.Errorf("P701: %d: no bytes under %x: %x", i, key, got)
			}
		}
	}
}

func TestSumOfAnyLength(t *testing.T) {
	keys, texts := []int{0, 1, 31, 32, 33, 63, 64, 65, 128, 1000}, []int{0, 1, 31, 55, 56, 63, 64, 65, 300}
	for n := range 300 {
		for _, b := range kinds(n) {
			for _, m := range texts {
				if text := drawn(3, m); Sum(b, text) != standard(b, text) {
					t.Errorf("P701: Sum of %d bytes under a key of %d, %x: %x", m, n, b, Sum(b, text))
				}
			}
			for _, m := range keys {
				if key := drawn(3, m); Sum(key, b) != standard(key, b) {
					t.Errorf("P701: Sum of %d bytes, %x, under a key of %d: %x", n, b, m, Sum(key, b))
				}
			}
		}
	}
	if long := drawn(4, 1<<20+1); Sum(long, long) != standard(long, long) {
		t.Error("P701: Sum of 2^20 + 1 bytes under a key of as many")
	}
}

// Each bit of a key and of a message counts, by itself.
func TestSumOfEachBit(t *testing.T) {
	text := []byte("ab")
	for _, n := range []int{1, 32, 63, 64, 65, 129} {
		for i := range 8 * n {
			b := make([]byte, n)
			b[i/8] = 1 << (i % 8)
			if got := Sum(b, text); got != standard(b, text) || got == Sum(make([]byte, n), text) {
				t.Errorf("P701: a key of %d bytes, the bit %d set: %x", n, i, got)
			}
			if got := Sum(text, b); got != standard(text, b) || got == Sum(text, make([]byte, n)) {
				t.Errorf("P701: a message of %d bytes, the bit %d set: %x", n, i, got)
			}
		}
	}
}

// A key of up to 64 bytes has bytes 0 behind it; a longer one counts as its digest.
func TestSumOfShortAndLongKeys(t *testing.T) {
	text := drawn(5, 50)
	for n := range 200 {
		key := drawn(6, n)
		full := append(slices.Clone(key), make([]byte, max(0, 64-n))...)
		digest := sha.Sum(key)
		if same := Sum(key, text) == Sum(full, text); !same {
			t.Errorf("P701: a key of %d bytes, with bytes 0 behind it up to 64, is another", n)
		}
		if same := Sum(key, text) == Sum(digest[:], text); same != (n > 64) {
			t.Errorf("P701: a key of %d bytes counts as its digest: %t", n, same)
		}
	}
}

func TestSumOfPieces(t *testing.T) {
	all := drawn(7, 200)
	for _, key := range [][]byte{nil, drawn(8, 32), drawn(8, 64), drawn(8, 100)} {
		for _, n := range []int{0, 1, 2, 55, 56, 63, 64, 65, 128, 200} {
			b := all[:n]
			want := standard(key, b)
			for i := range n + 1 {
				if got := Sum(key, nil, b[:i/2], b[i/2:i], []byte{}, b[i:], nil); got != want {
					t.Errorf("P701: Sum of %d bytes, cut at %d and %d: %x", n, i/2, i, got)
				}
			}
			for each := 1; each <= n; each++ {
				if got := Sum(key, slices.Collect(slices.Chunk(b, each))...); got != want {
					t.Errorf("P701: Sum of %d bytes, %d at a time: %x", n, each, got)
				}
			}
		}
	}
}

// The order counts, and so does what is key and what is message.
func TestSumOfTheSameBytesInOtherPlaces(t *testing.T) {
	a, b := drawn(9, 40), drawn(10, 33)
	codes := map[api.Num]int{}
	for i, l := range [][][]byte{{a}, {b}, {a, b}, {b, a}, {a, a}, {b, b}, {a, b, a}, {a, b, b}, {a[:39], a[39:], b}, {nil, a, b}, {nil, b, a}} {
		got := Sum(l[0], l[1:]...)
		if got != standard(l[0], l[1:]...) {
			t.Errorf("P701: %d: %x", i, got)
		}
		if before, ok := codes[got]; ok {
			t.Errorf("P701: %d and %d: another key or message, the same code", before, i)
		}
		codes[got] = i
	}
}

func TestSumLeavesItsArguments(t *testing.T) {
	for _, n := range []int{0, 1, 32, 63, 64, 65, 100} {
		room := drawn(11, 300)
		list := [][]byte{room[n:150], room[150:200], {1, 2, 3}}
		kept, keptList := slices.Clone(room), slices.Clone(list)
		first := Sum(room[:n], list[:2]...)
		answer := first
		first[0]++
		if !bytes.Equal(room, kept) || !slices.EqualFunc(list, keptList, bytes.Equal) {
			t.Errorf("P702 (P102): under a key of %d bytes, an argument was changed", n)
		}
		second := Sum(room[:n], list[:2]...)
		clear(room)
		clear(list)
		if second != answer || Sum(kept[:n], kept[n:150], kept[150:200]) != answer {
			t.Errorf("P702 (P102): under a key of %d bytes, the answer was not kept apart", n)
		}
	}
}

func TestSameByHand(t *testing.T) {
	for _, x := range []struct {
		a, b string
		want bool
	}{
		{"ab", "ac", false}, {"ab", "ab", true}, {"ab", "cb", false}, {"ab", "ba", false}, {"", "", true}, {"", "\x00", false},
		{"a", "", false}, {"ab", "abc", false}, {"bc", "abc", false}, {"ab", "ab\x00", false}, {"\x00", "\x00", true},
		{"\x7f", "\xff", false}, {"ab", "AB", false}, {"aa", "bb", false}, {"abc", "ab", false},
	} {
		if got := Same([]byte(x.a), []byte(x.b)); got != x.want {
			t.Errorf("P701: Same of %q and %q: %t", x.a, x.b, got)
		}
	}
}

func TestSameOfNoBytes(t *testing.T) {
	none := [][]byte{nil, {}, make([]byte, 0, 9), drawn(12, 2)[:0]}
	for i, a := range none {
		for j, b := range none {
			if !Same(a, b) {
				t.Errorf("P701: %d and %d: no bytes aren't the same as no bytes", i, j)
			}
		}
		if Same(a, []byte{0}) || Same([]byte{0}, a) {
			t.Errorf("P701: %d: no bytes are the same as a byte", i)
		}
	}
}

// Each bit of each byte counts, by itself and beside the same bit of another byte.
func TestSameOfEachBit(t *testing.T) {
	for n := range 66 {
		for _, a := range kinds(n) {
			if !Same(a, slices.Clone(a)) || !Same(a, a) {
				t.Errorf("P701: %x isn't the same as itself", a)
			}
			for i := range 8 * n {
				b := slices.Clone(a)
				b[i/8] ^= 1 << (i % 8)
				if Same(a, b) || Same(b, a) {
					t.Errorf("P701: %x is the same with the bit %d turned", a, i)
				}
				b[n-1] ^= 1 << (i % 8)
				if at := i / 8; at < n-1 && (Same(a, b) || Same(b, a)) {
					t.Errorf("P701: %x is the same with the bit %d of the bytes %d and %d turned", a, i%8, at, n-1)
				}
			}
		}
	}
}

func TestSameOfOneByteAmongMany(t *testing.T) {
	for _, n := range []int{100, 300, 1000, 1 << 16} {
		a := drawn(17, n)
		b := slices.Clone(a)
		for i := range b {
			if i > 300 && i < n-300 {
				continue
			}
			b[i]++
			if Same(a, b) || Same(b, a) {
				t.Errorf("P701: %d bytes are the same with the one at %d turned", n, i)
			}
			b[i]--
		}
		if !Same(a, b) {
			t.Errorf("P701: %d bytes aren't the same as themselves", n)
		}
	}
}

// The same bits turned in many bytes don't make up for each other.
func TestSameOfBytesThatAreAllApart(t *testing.T) {
	for _, n := range []int{2, 4, 128, 256, 512, 1 << 16} {
		a := drawn(12, n)
		for mask := 1; mask < 256; mask++ {
			b := slices.Clone(a)
			for i := range b {
				b[i] ^= byte(mask)
			}
			if Same(a, b) || Same(b, a) {
				t.Errorf("P701: %d bytes are the same with all of them turned by %x", n, mask)
			}
		}
	}
}

func TestSameOfOtherLengths(t *testing.T) {
	lengths := []int{256, 257, 512, 1 << 16, 1<<16 + 1, 1 << 24}
	for n := range 70 {
		lengths = append(lengths, n)
	}
	room := make([]byte, 1<<24)
	for _, n := range lengths {
		for _, m := range lengths {
			if got := Same(room[:n], room[:m]); got != (n == m) {
				t.Errorf("P701: Same of %d and of %d bytes 0: %t", n, m, got)
			}
		}
	}
	for n := range 70 {
		a := drawn(13, n+70)
		if Same(a[:n], a) || Same(a, a[:n]) || Same(a[70:], a) {
			t.Errorf("P701: %d bytes are the same as 70 more", n)
		}
	}
}

func TestSameLeavesItsArguments(t *testing.T) {
	for _, n := range []int{0, 1, 16, 32} {
		a, b := drawn(14, 40), drawn(15, 40)
		keptA, keptB := slices.Clone(a), slices.Clone(b)
		Same(a[:n], b[:n])
		Same(a[:n], b[:n+1])
		Same(a[:n+1], a[:n])
		if !bytes.Equal(a, keptA) || !bytes.Equal(b, keptB) {
			t.Errorf("P702 (P102): of %d bytes, an argument was changed", n)
		}
	}
}

func TestAnswersHangOnTheArgumentsOnly(t *testing.T) {
	room := drawn(16, 300)
	codes, same := make([]api.Num, len(room)), make([]bool, len(room))
	var wait sync.WaitGroup
	for n := range room {
		wait.Go(func() {
			codes[n] = Sum(room[:n], room, room[n:])
			same[n] = Same(room[:n], room[:150])
		})
	}
	wait.Wait()
	for n := range room {
		want := standard(room[:n], room, room[n:])
		if codes[n] != want || Sum(room[:n], room, room[n:]) != want {
			t.Errorf("P702 (P102): Sum under a key of %d bytes: another answer to the same arguments", n)
		}
		if same[n] != (n == 150) || Same(room[:n], room[:150]) != same[n] {
			t.Errorf("P702 (P102): Same of %d and of 150 bytes: another answer to the same arguments", n)
		}
	}
}

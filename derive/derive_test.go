package derive

import (
	"bytes"
	"crypto/hkdf"
	"crypto/sha256"
	"encoding/hex"
	"math"
	"math/rand/v2"
	"slices"
	"strings"
	"sync"
	"testing"

	"portcullis/api"
	"portcullis/mac"
)

// limit is how many bytes Expand gives at most.
const limit = 8160

// drawn are n bytes, always the same ones for the same seed.
func drawn(seed byte, n int) []byte {
	b := make([]byte, n)
	rand.NewChaCha8([32]byte{8, seed}).Read(b)
	return b
}

func numDrawn(seed byte) api.Num { return api.Num(drawn(seed, 32)) }

// kinds are some byte strings of n bytes.
func kinds(n int) [][]byte {
	return [][]byte{make([]byte, n), bytes.Repeat([]byte{255}, n), bytes.Repeat([]byte{1}, n), drawn(1, n)}
}

// keys are some keys: edges, and each with one bit.
func keys() []api.Num {
	l := []api.Num{{}, numDrawn(2), numDrawn(3)}
	for i := range 256 {
		var key api.Num
		key[i/8] = 1 << (i % 8)
		l = append(l, key)
	}
	return l
}

func unhex(t *testing.T, text string) []byte {
	t.Helper()
	b, err := hex.DecodeString(text)
	if err != nil {
		t.Fatal(err)
	}
	return b
}

// extracted is what the library's implementation computes.
func extracted(t *testing.T, salt, key []byte) api.Num {
	t.Helper()
	b, err := hkdf.Extract(sha256.New, key, salt)
	if err != nil {
		t.Fatal(err)
	}
	return api.Num(b)
}

// expanded is what the library's implementation computes.
func expanded(t *testing.T, key api.Num, info []byte, n int) []byte {
	t.Helper()
	b, err := hkdf.Expand(sha256.New, key[:], string(info), n)
	if err != nil {
		t.Fatal(err)
	}
	return b
}

// expand is Expand where it answers no error.
func expand(t *testing.T, key api.Num, info []byte, n int) []byte {
	t.Helper()
	b, e := Expand(key, info, n)
	if e != api.OK || len(b) != n {
		t.Fatalf("P801: Expand to %d bytes: %d bytes, error %d", n, len(b), e)
	}
	return b
}

// counted are n bytes that begin with first, each one more than the one ahead of it, in hexadecimal digits.
func counted(first, n int) string {
	b := make([]byte, n)
	for i := range b {
		b[i] = byte(first + i)
	}
	return hex.EncodeToString(b)
}

// The examples of RFC 5869 with SHA-256.
func TestByHand(t *testing.T) {
	for i, x := range []struct{ salt, key, info, between, want string }{
		{
			counted(0, 13), strings.Repeat("0b", 22), counted(0xf0, 10),
			"077709362c2e32df0ddc3f0dc47bba6390b6c73bb50f9c3122ec844ad7c2b3e5",
			"3cb25f25faacd57a90434f64d0362f2a2d2d0a90cf1a5a4c5db02d56ecc4c5bf34007208d5b887185865",
		},
		{
			counted(0x60, 80), counted(0, 80), counted(0xb0, 80),
			"06a6b88c5853361a06104c9ceb35b45cef760014904671014a193f40c15fc244",
			"b11e398dc80327a1c8e7f78c596a49344f012eda2d4efad8a050cc4c19afa97c59045a99cac7827271cb41c65e590e09" +
				"da3275600c2f09b8367793a9aca3db71cc30c58179ec3e87c14c01d5c1f3434f1d87",
		},
		{
			"", strings.Repeat("0b", 22), "",
			"19ef24a32c717b167f33a91d6f648bdf96596776afdb6377ac434c1c293ccb04",
			"8da4e775a563c18f715f802a063c5a31b8a11f5c5ee1879ec3454e5f3c738d2d9d201395faa4b61a96c8",
		},
	} {
		between := Extract(unhex(t, x.salt), unhex(t, x.key))
		if hex.EncodeToString(between[:]) != x.between {
			t.Errorf("P801: the example %d: Extract: %x", i+1, between)
		}
		want := unhex(t, x.want)
		if got := expand(t, api.Num(unhex(t, x.between)), unhex(t, x.info), len(want)); !bytes.Equal(got, want) {
			t.Errorf("P801: the example %d: Expand: %x", i+1, got)
		}
	}
}

// The keys of no name and of a word, as other implementations compute them.
func TestKeyByHand(t *testing.T) {
	for _, x := range []struct {
		secret     api.Num
		name, want string
	}{
		{api.Num{}, "", "3d7afb663124ecbf2c953f863d4fc8796eeb2d372b64aad58697ec5264649cdb"},
		{api.Num{}, "bank", "07c25fb9e8091142fc096a5803c76d3fcb62603fc7ccbf7d624d48e03be88d5b"},
	} {
		if got := Key(x.secret, x.name); hex.EncodeToString(got[:]) != x.want {
			t.Errorf("P801: Key of %q: %x", x.name, got)
		}
	}
}

func TestExtractOfNoSalt(t *testing.T) {
	zeros := make([]byte, 32)
	for _, key := range append(kinds(3), nil, []byte{}, []byte("key"), drawn(4, 32), drawn(4, 65)) {
		want := mac.Sum(zeros, key)
		for i, salt := range [][]byte{nil, {}, make([]byte, 0, 100), drawn(5, 9)[:0], zeros} {
			if got := Extract(salt, key); got != want || got != extracted(t, salt, key) {
				t.Errorf("P801: %d: Extract of %x and no salt: %x", i, key, got)
			}
		}
		if Extract([]byte{1}, key) == want || Extract([]byte{255}, key) == want {
			t.Errorf("P801: Extract of %x and a salt of one byte: as of no salt", key)
		}
	}
}

func TestExtractOfAnyLength(t *testing.T) {
	for n := range 200 {
		for _, b := range kinds(n) {
			for _, m := range []int{0, 1, 31, 32, 33, 63, 64, 65, 128, 300} {
				other := drawn(6, m)
				if got := Extract(b, other); got != extracted(t, b, other) || got != mac.Sum(b, other) {
					t.Errorf("P801: Extract of %d bytes and the salt %x: %x", m, b, got)
				}
				if got := Extract(other, b); got != extracted(t, other, b) || got != mac.Sum(other, b) {
					t.Errorf("P801: Extract of %x and a salt of %d bytes: %x", b, m, got)
				}
			}
		}
	}
}

func TestExtractOfSaltAndKeyTurnedAbout(t *testing.T) {
	a, b := drawn(7, 40), drawn(8, 33)
	if Extract(a, b) == Extract(b, a) || Extract(a, b) == Extract(a, a) || Extract(a, b) == Extract(b, b) {
		t.Error("P801: Extract: another salt or key, the same answer")
	}
}

func TestExpandOfAnyLength(t *testing.T) {
	for seed, info := range [][]byte{nil, []byte("wrap"), drawn(9, 64), drawn(9, 1000)} {
		key := numDrawn(byte(seed))
		want := expanded(t, key, info, limit)
		for n := range limit + 1 {
			if n > 300 && n < limit-70 && n%67 != seed {
				continue
			}
			if got := expand(t, key, info, n); !bytes.Equal(got, want[:n]) {
				t.Errorf("P801: Expand to %d bytes for %d bytes of info: other bytes", n, len(info))
			}
		}
	}
}

// As the chapter tells it: each code of the one ahead of it, of info, and of its number.
func TestExpandIsMadeOfCodes(t *testing.T) {
	for n := range 100 {
		for _, info := range kinds(n) {
			key := numDrawn(10)
			var want, before []byte
			for i := 1; i <= 255; i++ {
				code := mac.Sum(key[:], slices.Concat(before, info, []byte{byte(i)}))
				before = code[:]
				want = append(want, before...)
			}
			if got := expand(t, key, info, limit); !bytes.Equal(got, want) {
				t.Errorf("P801: Expand for the info %x: other bytes", info)
			}
		}
	}
}

func TestExpandOfAnyKeyAndInfo(t *testing.T) {
	for _, key := range keys() {
		for _, info := range [][]byte{nil, {0}, {1}, {255}, []byte("some words"), drawn(11, 55), drawn(11, 65)} {
			if got := expand(t, key, info, 100); !bytes.Equal(got, expanded(t, key, info, 100)) {
				t.Errorf("P801: Expand of the key %x for the info %x: %x", key, info, got)
			}
		}
	}
	if long := drawn(12, 1<<20+1); !bytes.Equal(expand(t, api.Num{7}, long, 70), expanded(t, api.Num{7}, long, 70)) {
		t.Error("P801: Expand for 2^20 + 1 bytes of info: other bytes")
	}
}

func TestExpandOfNoBytes(t *testing.T) {
	for _, info := range [][]byte{nil, {}, []byte("info"), drawn(13, 100)} {
		if b, e := Expand(numDrawn(14), info, 0); len(b) != 0 || e != api.OK {
			t.Errorf("P801: Expand to 0 bytes: %x, error %d", b, e)
		}
	}
}

func TestExpandOfNoSuchLength(t *testing.T) {
	for _, n := range []int{-1, -32, -limit, limit + 1, limit + 2, limit + 32, 1 << 16, 1 << 32, 1<<32 + 32, 1 << 40, math.MaxInt, math.MinInt, math.MinInt + 32} {
		for _, info := range [][]byte{nil, []byte("info")} {
			if b, e := Expand(numDrawn(15), info, n); len(b) != 0 || e != api.ErrArg {
				t.Errorf("P801: Expand to %d bytes: %d bytes, error %d", n, len(b), e)
			}
		}
	}
	for _, n := range []int{limit - 32, limit - 31, limit - 1, limit} {
		expand(t, numDrawn(15), nil, n)
	}
}

// Names of all kinds: of any length, such as are no valid text, and such as look like a part of another.
func names() []string {
	l := []string{"", "some words", "bank", "wrap", "\x00", "\x01", "\x00\x00", "\xff", "bank\x00", "bank\x01", "Bank", " bank", "h\u00e9", "\xe9", "\u65e5\u672c", "\xed\xa0\x80", "\ufffd"}
	for n := range 140 {
		l = append(l, string(drawn(16, n+1)))
	}
	return append(l, string(drawn(16, 1<<16)))
}

func TestKeyOfAnyName(t *testing.T) {
	for _, name := range names() {
		for _, secret := range []api.Num{{}, numDrawn(17), numDrawn(18)} {
			got := Key(secret, name)
			if !bytes.Equal(got[:], expanded(t, secret, []byte(name), 32)) {
				t.Errorf("P801: Key of %.40q: %x", name, got)
			}
			for _, n := range []int{32, 33, 64, limit} {
				if !bytes.Equal(got[:], expand(t, secret, []byte(name), n)[:32]) {
					t.Errorf("P801: Key of %.40q isn't where Expand to %d bytes begins: %x", name, n, got)
				}
			}
		}
	}
}

func TestKeyOfEachSecretAndName(t *testing.T) {
	given := map[api.Num]int{}
	all := names()
	for i, secret := range keys() {
		for j, name := range all[:30] {
			got := Key(secret, name)
			if before, ok := given[got]; ok {
				t.Errorf("P801: the secret %d and the name %q: the key of the secret %d and the name %q", i, name, before/30, all[before%30])
			}
			given[got] = 30*i + j
			if !bytes.Equal(got[:], expanded(t, secret, []byte(name), 32)) {
				t.Errorf("P801: Key of %x and %q: %x", secret, name, got)
			}
		}
	}
}

func TestArgumentsAreLeft(t *testing.T) {
	for _, n := range []int{0, 1, 31, 32, 63, 64, 65, 100} {
		a, b := drawn(19, 300), drawn(20, 300)
		keptA, keptB, key := slices.Clone(a), slices.Clone(b), numDrawn(21)
		first := Extract(a[:n], b[:n])
		second := expand(t, key, a[:n], 200)
		Expand(key, b[:n], -1)
		Expand(key, b[:n], limit+1)
		if !bytes.Equal(a, keptA) || !bytes.Equal(b, keptB) || key != numDrawn(21) {
			t.Errorf("P802 (P102): of %d bytes, an argument was changed", n)
		}
		keptSecond := slices.Clone(second)
		clear(a)
		clear(b)
		if !bytes.Equal(second, keptSecond) {
			t.Errorf("P802 (P102): Expand for %d bytes of info: the answer shares memory with an argument", n)
		}
		if Extract(keptA[:n], keptB[:n]) != first || !bytes.Equal(expand(t, key, keptA[:n], 200), keptSecond) {
			t.Errorf("P802 (P102): of %d bytes, an argument was kept", n)
		}
	}
}

func TestAnswersAreNew(t *testing.T) {
	key, info := numDrawn(22), drawn(23, 40)
	for _, n := range []int{1, 31, 32, 33, 64, 100, limit} {
		first, second := expand(t, key, info, n), expand(t, key, info, n)
		want := slices.Clone(first)
		for i, b := range first[:cap(first)] {
			first[:cap(first)][i] = ^b
		}
		if !bytes.Equal(second, want) || !bytes.Equal(expand(t, key, info, n), want) || !bytes.Equal(info, drawn(23, 40)) {
			t.Errorf("P802 (P102): Expand to %d bytes: the answer is shared", n)
		}
	}
}

func TestAnswersHangOnTheArgumentsOnly(t *testing.T) {
	room, key := drawn(25, 300), numDrawn(26)
	out, nums, named := make([][]byte, len(room)), make([]api.Num, len(room)), make([]api.Num, len(room))
	var wait sync.WaitGroup
	for n := range room {
		wait.Go(func() {
			out[n], _ = Expand(key, room[:n], 27*n)
			nums[n] = Extract(room[:n], room)
			named[n] = Key(key, string(room[:n]))
		})
	}
	wait.Wait()
	for n := range room {
		want := expanded(t, key, room[:n], 27*n)
		if !bytes.Equal(out[n], want) || !bytes.Equal(expand(t, key, room[:n], 27*n), want) {
			t.Errorf("P802 (P102): Expand to %d bytes: another answer to the same arguments", 27*n)
		}
		if nums[n] != extracted(t, room[:n], room) || nums[n] != Extract(room[:n], room) {
			t.Errorf("P802 (P102): Extract with a salt of %d bytes: another answer to the same arguments", n)
		}
		if named[n] != api.Num(expanded(t, key, room[:n], 32)) || named[n] != Key(key, string(room[:n])) {
			t.Errorf("P802 (P102): Key of a name of %d bytes: another answer to the same arguments", n)
		}
	}
}

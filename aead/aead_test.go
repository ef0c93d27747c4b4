package aead

import (
	"bytes"
	"encoding/binary"
	"encoding/hex"
	"math/rand/v2"
	"slices"
	"strconv"
	"sync"
	"testing"

	"portcullis/api"
	"portcullis/chacha"
	"portcullis/poly"
)

// drawn are n bytes, always the same ones for the same seed.
func drawn(seed byte, n int) []byte {
	b := make([]byte, n)
	rand.NewChaCha8([32]byte{11, seed}).Read(b)
	return b
}

func keyDrawn(seed byte) api.Num { return api.Num(drawn(seed, 32)) }

func nonceDrawn(seed byte) api.Nonce { return api.Nonce(drawn(seed, 12)) }

// kinds are some byte strings of n bytes.
func kinds(n int) [][]byte {
	return [][]byte{make([]byte, n), bytes.Repeat([]byte{255}, n), drawn(1, n)}
}

// none are ways to have no bytes.
func none() [][]byte { return [][]byte{nil, {}, make([]byte, 0, 100), drawn(2, 70)[:0]} }

// lengths are edges: about whole blocks of the tag (16 bytes) and of the key stream (64 bytes), and about numbers of one
// byte.
func lengths() []int {
	return []int{0, 1, 2, 7, 8, 9, 15, 16, 17, 31, 32, 33, 47, 48, 49, 63, 64, 65, 127, 128, 129, 255, 256, 257, 300}
}

func unhex(t *testing.T, text string) []byte {
	t.Helper()
	b, err := hex.DecodeString(text)
	if err != nil {
		t.Fatal(err)
	}
	return b
}

// ruledTag is the tag as section 2.8 of the RFC tells it.
func ruledTag(key api.Num, nonce api.Nonce, hidden, beside []byte) []byte {
	var data []byte
	for _, b := range [][]byte{beside, hidden} {
		data = append(data, b...)
		for len(data)%16 != 0 {
			data = append(data, 0)
		}
	}
	data = binary.LittleEndian.AppendUint64(data, uint64(len(beside)))
	data = binary.LittleEndian.AppendUint64(data, uint64(len(hidden)))
	return tagUnder(chacha.Block(key, 0, nonce), data)
}

// tagUnder is the tag of data under the first bytes of stream.
func tagUnder(stream api.Sig, data []byte) []byte {
	tag := poly.Sum(api.Num(stream[:32]), data)
	return tag[:]
}

// ruled is what Seal answers, as section 2.8 of the RFC tells it.
func ruled(key api.Num, nonce api.Nonce, plain, beside []byte) []byte {
	hidden := chacha.Turn(key, 1, nonce, plain)
	return append(hidden, ruledTag(key, nonce, hidden, beside)...)
}

// opens checks that Open answers plain.
func opens(t *testing.T, what string, key api.Num, nonce api.Nonce, b, beside, plain []byte) {
	t.Helper()
	if got, e := Open(key, nonce, b, beside); e != api.OK || !bytes.Equal(got, plain) {
		t.Errorf("P1101: %s: Open: %x, %d", what, got, e)
	}
}

// refuses checks that Open answers ErrTag, and nothing beside it.
func refuses(t *testing.T, what string, key api.Num, nonce api.Nonce, b, beside []byte) {
	t.Helper()
	if got, e := Open(key, nonce, b, beside); e != api.ErrTag || got != nil {
		t.Errorf("P1101: %s: Open: %x, %d", what, got, e)
	}
}

// The examples of the RFC: of section 2.8.2 and of the appendix A.5.
func TestByHand(t *testing.T) {
	for i, x := range []struct{ key, nonce, beside, plain, hidden, tag string }{
		{
			"808182838485868788898a8b8c8d8e8f909192939495969798999a9b9c9d9e9f", "070000004041424344454647",
			"50515253c0c1c2c3c4c5c6c7",
			"Ladies and Gentlemen of the class of '99: If I could offer you only one tip for the future, " +
				"sunscreen would be it.",
			"d31a8d34648e60db7b86afbc53ef7ec2a4aded51296e08fea9e2b5a736ee62d63dbea45e8ca9671282fafb69da92728b" +
				"1a71de0a9e060b2905d6a5b67ecd3b3692ddbd7f2d778b8c9803aee328091b58fab324e4fad675945585808b4831d7bc" +
				"3ff4def08e4b7a9de576d26586cec64b6116",
			"1ae10b594f09e26a7e902ecbd0600691",
		},
		{
			"1c9240a5eb55d38af333888604f6b5f0473917c1402b80099dca5cbc207075c0", "000000000102030405060708",
			"f33388860000000000004e91",
			"Internet-Drafts are draft documents valid for a maximum of six months and may be updated, replaced, or " +
				"obsoleted by other documents at any time. It is inappropriate to use Internet-Drafts as reference " +
				"material or to cite them other than as /\u201cwork in progress./\u201d",
			"64a0861575861af460f062c79be643bd5e805cfd345cf389f108670ac76c8cb24c6cfc18755d43eea09ee94e382d26b0" +
				"bdb7b73c321b0100d4f03b7f355894cf332f830e710b97ce98c8a84abd0b948114ad176e008d33bd60f982b1ff37c855" +
				"9797a06ef4f0ef61c186324e2b3506383606907b6a7c02b0f9f6157b53c867e4b9166c767b804d46a59b5216cde7a4e9" +
				"9040c5a40433225ee282a1b0a06c523eaf4534d7f83fa1155b0047718cbc546a0d072b04b3564eea1b422273f548271a" +
				"0bb2316053fa76991955ebd63159434ecebb4e466dae5a1073a6727627097a1049e617d91d361094fa68f0ff77987130" +
				"305beaba2eda04df997b714d6c6f2c29a6ad5cb4022b02709b",
			"eead9d67890cbb22392336fea1851f38",
		},
	} {
		key, nonce, beside := api.Num(unhex(t, x.key)), api.Nonce(unhex(t, x.nonce)), unhex(t, x.beside)
		want := unhex(t, x.hidden+x.tag)
		if got := Seal(key, nonce, []byte(x.plain), beside); !bytes.Equal(got, want) {
			t.Errorf("P1101: the example %d: Seal: %x", i+1, got)
		}
		opens(t, "the example "+strconv.Itoa(i+1), key, nonce, want, beside, []byte(x.plain))
		if rule := ruled(key, nonce, []byte(x.plain), beside); !bytes.Equal(rule, want) {
			t.Errorf("the example %d: the rule of this test: %x", i+1, rule)
		}
	}
	if got := Seal(api.Num{}, api.Nonce{}, make([]byte, 114), nil); len(got) != 130 {
		t.Errorf("P1101: Seal of 114 bytes: %d bytes", len(got))
	}
}

func TestOfNoBytes(t *testing.T) {
	key, nonce, some := keyDrawn(3), nonceDrawn(4), drawn(5, 20)
	for i, empty := range none() {
		for j, other := range none() {
			got := Seal(key, nonce, empty, other)
			if !bytes.Equal(got, ruled(key, nonce, nil, nil)) || len(got) != 16 {
				t.Errorf("P1101: %d, %d: Seal of nothing, with nothing beside: %x", i, j, got)
			}
			opens(t, "nothing, with nothing beside", key, nonce, got, other, nil)
		}
		if got := Seal(key, nonce, some, empty); !bytes.Equal(got, ruled(key, nonce, some, nil)) {
			t.Errorf("P1101: %d: Seal with nothing beside: %x", i, got)
		}
		if got := Seal(key, nonce, empty, some); !bytes.Equal(got, ruled(key, nonce, nil, some)) || len(got) != 16 {
			t.Errorf("P1101: %d: Seal of nothing: %x", i, got)
		}
		opens(t, "nothing beside", key, nonce, Seal(key, nonce, some, nil), empty, some)
		opens(t, "nothing", key, nonce, Seal(key, nonce, empty, some), some, nil)
	}
}

func TestOfAnyLength(t *testing.T) {
	key, nonce := keyDrawn(6), nonceDrawn(7)
	check := func(plain, beside []byte) {
		got := Seal(key, nonce, plain, beside)
		if !bytes.Equal(got, ruled(key, nonce, plain, beside)) {
			t.Errorf("P1101: Seal of %x beside %x: %x", plain, beside, got)
		}
		opens(t, strconv.Itoa(len(plain))+" bytes beside "+strconv.Itoa(len(beside)), key, nonce, got, beside, plain)
	}
	for n := range 400 {
		for _, m := range lengths() {
			for _, b := range kinds(n) {
				check(b, drawn(8, m))
				check(drawn(9, m), b)
			}
		}
	}
}

// Each byte of a length that a program can have counts.
func TestOfGreatLengths(t *testing.T) {
	key, nonce, room := keyDrawn(10), nonceDrawn(11), drawn(12, 1<<24+1<<16+1<<8+1)
	for _, n := range []int{1 << 16, 1<<16 + 1<<8 + 1, 1 << 24, len(room)} {
		for i, x := range [][2][]byte{{room[:n], nil}, {room[:5], room[:n]}} {
			plain, beside := x[0], x[1]
			got := Seal(key, nonce, plain, beside)
			if !bytes.Equal(got, ruled(key, nonce, plain, beside)) {
				t.Errorf("P1101: %d: Seal of %d bytes beside %d: other bytes", i, len(plain), len(beside))
			}
			if back, e := Open(key, nonce, got, beside); e != api.OK || !bytes.Equal(back, plain) {
				t.Errorf("P1101: %d: Open of %d bytes beside %d: %d bytes, %d", i, len(plain), len(beside), len(back), e)
			}
		}
	}
}

func TestOfAnyKeyAndNonce(t *testing.T) {
	plain, beside := drawn(13, 130), drawn(14, 21)
	keys, nonces := kinds(32), kinds(12)
	for seed := range byte(50) {
		keys, nonces = append(keys, drawn(seed, 32)), append(nonces, drawn(seed, 12))
	}
	for _, k := range keys {
		for _, n := range nonces {
			key, nonce := api.Num(k), api.Nonce(n)
			got := Seal(key, nonce, plain, beside)
			if !bytes.Equal(got, ruled(key, nonce, plain, beside)) {
				t.Errorf("P1101: Seal under %x with the nonce %x: %x", k, n, got)
			}
			opens(t, "any key and nonce", key, nonce, got, beside, plain)
		}
	}
}

// flips calls f with each bit of b turned, one at a time.
func flips(b []byte, f func()) {
	for i := range 8 * len(b) {
		b[i/8] ^= 1 << (i % 8)
		f()
		b[i/8] ^= 1 << (i % 8)
	}
}

func TestOpenOfEachBit(t *testing.T) {
	key, nonce := keyDrawn(15), nonceDrawn(16)
	for _, n := range []int{0, 1, 16, 33, 64, 80} {
		for _, m := range []int{0, 1, 16, 20} {
			plain, beside := drawn(17, n), drawn(18, m)
			b := Seal(key, nonce, plain, beside)
			flips(b, func() { refuses(t, "a bit of what is sealed turned", key, nonce, b, beside) })
			flips(beside, func() { refuses(t, "a bit beside turned", key, nonce, b, beside) })
			flips(key[:], func() { refuses(t, "a bit of the key turned", key, nonce, b, beside) })
			flips(nonce[:], func() { refuses(t, "a bit of the nonce turned", key, nonce, b, beside) })
			opens(t, "nothing turned", key, nonce, b, beside, plain)
		}
	}
}

// Two bits turned in the tag don't make up for each other.
func TestOpenOfTwoBitsOfTheTag(t *testing.T) {
	key, nonce, beside := keyDrawn(19), nonceDrawn(20), drawn(21, 3)
	b := Seal(key, nonce, []byte("abc"), beside)
	tag := b[3:]
	flips(tag[:8], func() {
		flips(tag[8:], func() { refuses(t, "two bits of the tag turned", key, nonce, b, beside) })
	})
	for mask := range 255 {
		turned := slices.Clone(b)
		for i := range tag {
			turned[3+i] ^= byte(mask + 1)
		}
		refuses(t, "all bytes of the tag turned", key, nonce, turned, beside)
	}
}

func TestOpenOfTooFewBytes(t *testing.T) {
	key, nonce, beside := keyDrawn(22), nonceDrawn(23), drawn(24, 5)
	whole := Seal(key, nonce, nil, beside)
	for n := range 16 {
		for _, b := range append(kinds(n), whole[:n], whole[16-n:]) {
			refuses(t, strconv.Itoa(n)+" bytes", key, nonce, b, beside)
			refuses(t, strconv.Itoa(n)+" bytes, nothing beside", key, nonce, b, nil)
		}
	}
	for i, b := range none() {
		refuses(t, "no bytes "+strconv.Itoa(i), key, nonce, b, beside)
	}
	for _, b := range kinds(16) {
		refuses(t, "another tag alone", key, nonce, b, beside)
	}
}

// sealings calls f with what Seal answers for texts and strings beside them of many lengths, and with that string.
func sealings(key api.Num, nonce api.Nonce, f func(b, beside []byte)) {
	for n := range 70 {
		for _, m := range []int{0, 1, 15, 16, 17, 33} {
			for _, beside := range kinds(m) {
				f(Seal(key, nonce, drawn(27, n), beside), beside)
			}
		}
	}
}

// Neither what is sealed nor what is beside it may get bytes, at the front or at the end: bytes 0 are bytes too.
func TestOpenOfMoreBytes(t *testing.T) {
	key, nonce := keyDrawn(25), nonceDrawn(26)
	sealings(key, nonce, func(b, beside []byte) {
		hidden, tag := b[:len(b)-16], b[len(b)-16:]
		for k := range 33 {
			more := make([]byte, k+1)
			refuses(t, "more beside", key, nonce, b, slices.Concat(beside, more))
			refuses(t, "more in front beside", key, nonce, b, slices.Concat(more, beside))
			refuses(t, "more", key, nonce, slices.Concat(b, more), beside)
			refuses(t, "more in front", key, nonce, slices.Concat(more, b), beside)
			refuses(t, "more in front of the tag", key, nonce, slices.Concat(hidden, more, tag), beside)
		}
	})
}

// They may not lose any either.
func TestOpenOfLessBytes(t *testing.T) {
	key, nonce := keyDrawn(25), nonceDrawn(26)
	sealings(key, nonce, func(b, beside []byte) {
		hidden, tag := b[:len(b)-16], b[len(b)-16:]
		for k := range beside {
			refuses(t, "less beside", key, nonce, b, beside[:k])
			refuses(t, "less in front beside", key, nonce, b, beside[k+1:])
		}
		for k := range hidden {
			refuses(t, "less in front of the tag", key, nonce, slices.Concat(hidden[:k], tag), beside)
		}
		for k := range b {
			refuses(t, "less", key, nonce, b[:k], beside)
			refuses(t, "less in front", key, nonce, b[k+1:], beside)
		}
	})
}

// Bytes don't move over between what is sealed and what is beside it.
func TestOpenOfMovedBytes(t *testing.T) {
	key, nonce := keyDrawn(28), nonceDrawn(29)
	for _, n := range []int{16, 32, 48, 100} {
		for _, m := range []int{0, 16, 32, 5} {
			plain, beside := drawn(30, n), drawn(31, m)
			b := Seal(key, nonce, plain, beside)
			hidden, tag := b[:n], b[n:]
			for k := 1; k <= n; k++ {
				refuses(t, "moved beside", key, nonce, b[k:], slices.Concat(beside, hidden[:k]))
			}
			for k := 1; k <= m; k++ {
				refuses(t, "moved from beside", key, nonce, slices.Concat(beside[m-k:], b), beside[:m-k])
			}
			if !bytes.Equal(hidden, beside) {
				refuses(t, "changed places", key, nonce, slices.Concat(beside, tag), hidden)
			}
			refuses(t, "the tag in front", key, nonce, slices.Concat(tag, hidden), beside)
		}
	}
}

// A tag that is made by a rule next to the right one is a wrong tag.
func TestOpenOfTagsByOtherRules(t *testing.T) {
	key, nonce, beside := keyDrawn(32), nonceDrawn(33), drawn(34, 21)
	hidden := chacha.Turn(key, 1, nonce, drawn(35, 37))
	first, second := chacha.Block(key, 0, nonce), chacha.Block(key, 1, nonce)
	little, big := binary.LittleEndian.AppendUint64, binary.BigEndian.AppendUint64
	fill := func(n int) []byte { return make([]byte, n) }
	data := slices.Concat(beside, fill(11), hidden, fill(11))
	right := little(little(data, 21), 37)
	if b := slices.Concat(hidden, tagUnder(first, right)); !bytes.Equal(b, Seal(key, nonce, drawn(35, 37), beside)) {
		t.Fatalf("P1101: Seal is not %x", b)
	}
	for i, tag := range [][]byte{
		tagUnder(second, right),
		tagUnder(api.Sig(slices.Concat(first[32:], first[:32])), right),
		tagUnder(first, little(little(data, 37), 21)),
		tagUnder(first, big(big(data, 21), 37)),
		tagUnder(first, little(little(data, 8*21), 8*37)),
		tagUnder(first, little(little(data, 21), 37+16)),
		tagUnder(first, data),
		tagUnder(first, slices.Concat(beside, hidden, right[64+16:])),
		tagUnder(first, little(little(slices.Concat(beside, hidden), 21), 37)),
		tagUnder(first, little(little(slices.Concat(hidden, fill(11), beside, fill(11)), 21), 37)),
		tagUnder(first, little(little(slices.Concat(beside, fill(11), hidden), 21), 37)),
		tagUnder(first, little(little(slices.Concat(beside, hidden, fill(11)), 21), 37)),
		tagUnder(first, little(little(slices.Concat(beside, fill(11), drawn(35, 37), fill(11)), 21), 37)),
		tagUnder(first, hidden),
		first[:16],
		first[16:32],
		make([]byte, 16),
	} {
		refuses(t, "the tag "+strconv.Itoa(i), key, nonce, slices.Concat(hidden, tag), beside)
	}
}

// What is drawn isn't sealed by anybody; where a tag is put behind it that is right, it is.
func TestOpenOfWhatWasNotSealed(t *testing.T) {
	for seed := range byte(200) {
		key, nonce, beside := keyDrawn(seed), nonceDrawn(seed), drawn(seed, int(seed)/3)
		hidden := drawn(seed, 64+int(seed))[64:]
		refuses(t, "drawn bytes", key, nonce, slices.Concat(hidden, drawn(36, 16)), beside)
		b := slices.Concat(hidden, ruledTag(key, nonce, hidden, beside))
		opens(t, "drawn bytes with their tag", key, nonce, b, beside, chacha.Turn(key, 1, nonce, hidden))
		plain, _ := Open(key, nonce, b, beside)
		if !bytes.Equal(Seal(key, nonce, plain, beside), b) {
			t.Errorf("P1101: %x is not what Seal answers for what Open answers", b)
		}
	}
}

func TestArgumentsAreLeft(t *testing.T) {
	key, nonce := keyDrawn(37), nonceDrawn(38)
	for _, n := range []int{0, 1, 15, 16, 17, 63, 64, 65, 100} {
		for _, m := range []int{0, 1, 16, 21} {
			plain, beside := drawn(39, 200), drawn(40, 200)
			b := Seal(key, nonce, plain[:n], beside[:m])
			wrong := slices.Concat(b, drawn(41, 50))
			kept, keptWrong := slices.Clone(b), slices.Clone(wrong)
			back, _ := Open(key, nonce, wrong[:n+16], beside[:m])
			refuses(t, "another key", keyDrawn(0), nonce, wrong[:n+16], beside[:m])
			if !bytes.Equal(plain, drawn(39, 200)) || !bytes.Equal(beside, drawn(40, 200)) || !bytes.Equal(wrong, keptWrong) ||
				key != keyDrawn(37) || nonce != nonceDrawn(38) {
				t.Errorf("P1102 (P102): of %d bytes beside %d, an argument was changed", n, m)
			}
			for _, x := range [][]byte{plain, beside, wrong} {
				clear(x)
			}
			if !bytes.Equal(b, kept) || !bytes.Equal(back, drawn(39, 200)[:n]) {
				t.Errorf("P1102 (P102): of %d bytes beside %d, an answer shares memory with an argument", n, m)
			}
			if !bytes.Equal(Seal(key, nonce, drawn(39, 200)[:n], drawn(40, 200)[:m]), kept) {
				t.Errorf("P1102 (P102): of %d bytes beside %d, an argument was kept", n, m)
			}
		}
	}
}

// One and the same memory may be all of the arguments.
func TestArgumentsThatShareMemory(t *testing.T) {
	key, nonce := keyDrawn(42), nonceDrawn(43)
	for n := range 100 {
		b := drawn(44, n)
		got := Seal(key, nonce, b, b)
		if !bytes.Equal(got, ruled(key, nonce, drawn(44, n), drawn(44, n))) {
			t.Errorf("P1102 (P102): Seal of %d bytes beside themselves: %x", n, got)
		}
		opens(t, "beside itself", key, nonce, got, b, b)
		refuses(t, "what is sealed beside itself", key, nonce, got, got)
	}
}

func TestAnswersAreNew(t *testing.T) {
	key, nonce := keyDrawn(45), nonceDrawn(46)
	for _, n := range []int{0, 1, 16, 64, 65, 300} {
		plain, beside := drawn(47, n), drawn(48, 9)
		want := ruled(key, nonce, plain, beside)
		first, second := Seal(key, nonce, plain, beside), Seal(key, nonce, plain, beside)
		clear(first[:cap(first)])
		one, _ := Open(key, nonce, want, beside)
		other, _ := Open(key, nonce, want, beside)
		clear(one[:cap(one)])
		if !bytes.Equal(second, want) || !bytes.Equal(other, plain) || !bytes.Equal(plain, drawn(47, n)) {
			t.Errorf("P1102 (P102): of %d bytes, an answer is shared", n)
		}
		for _, b := range [][]byte{second, other} {
			if rest := b[len(b):cap(b)]; !bytes.Equal(rest, make([]byte, len(rest))) {
				t.Errorf("P1102 (P102): of %d bytes, behind an answer stands %x", n, rest)
			}
		}
	}
}

func TestAnswersHangOnTheArgumentsOnly(t *testing.T) {
	key, nonce, room := keyDrawn(49), nonceDrawn(50), drawn(51, 300)
	sealed, opened := make([][]byte, len(room)), make([][]byte, len(room))
	var wait sync.WaitGroup
	for n := range room {
		wait.Go(func() {
			sealed[n] = Seal(key, nonce, room[:n], room[n:])
			opened[n], _ = Open(key, nonce, sealed[n], room[n:])
			Open(key, nonce, room[:n], room[n:])
		})
	}
	wait.Wait()
	for n := range room {
		want := ruled(key, nonce, room[:n], room[n:])
		if !bytes.Equal(sealed[n], want) || !bytes.Equal(Seal(key, nonce, room[:n], room[n:]), want) {
			t.Errorf("P1102 (P102): Seal of %d bytes: another answer to the same arguments", n)
		}
		if !bytes.Equal(opened[n], room[:n]) {
			t.Errorf("P1102 (P102): Open of %d bytes: another answer to the same arguments", n)
		}
		opens(t, "once more", key, nonce, sealed[n], room[n:], room[:n])
	}
}

package chacha

import (
	"bytes"
	"encoding/binary"
	"encoding/hex"
	"math"
	"math/rand/v2"
	"slices"
	"strings"
	"sync"
	"testing"

	"portcullis/api"
)

// drawn are n bytes, always the same ones for the same seed.
func drawn(seed byte, n int) []byte {
	b := make([]byte, n)
	rand.NewChaCha8([32]byte{9, seed}).Read(b)
	return b
}

func numDrawn(seed byte) api.Num { return api.Num(drawn(seed, 32)) }

func nonceDrawn(seed byte) api.Nonce { return api.Nonce(drawn(seed, 12)) }

// kinds are some byte strings of n bytes.
func kinds(n int) [][]byte {
	return [][]byte{make([]byte, n), bytes.Repeat([]byte{255}, n), bytes.Repeat([]byte{1}, n), drawn(1, n)}
}

// counters are edges: about the first and the last counter, about the middle, and such as have more than 32 bits.
func counters() []int {
	var l []int
	for _, c := range []int{0, 1 << 16, 1 << 31, 1 << 32, 1<<32 + 1<<31, 1 << 33, 1 << 40, 1 << 62, -1 << 31, -1 << 32, -1 << 40} {
		l = append(l, c-2, c-1, c, c+1, c+2)
	}
	return append(l, math.MaxInt, math.MaxInt-1, math.MinInt, math.MinInt+1, 0x123456789abcdef)
}

func unhex(t *testing.T, text string) []byte {
	t.Helper()
	b, err := hex.DecodeString(text)
	if err != nil {
		t.Fatal(err)
	}
	return b
}

// ruled is the block as section 2.3 of the RFC tells it, for a counter of 32 bits.
func ruled(key api.Num, counter uint32, nonce api.Nonce) []byte {
	first := slices.Concat([]byte("expand 32-byte k"), key[:], binary.LittleEndian.AppendUint32(nil, counter), nonce[:])
	var x [16]uint32
	for i := range x {
		x[i] = binary.LittleEndian.Uint32(first[4*i:])
	}
	for range 10 {
		for _, at := range [][4]int{
			{0, 4, 8, 12}, {1, 5, 9, 13}, {2, 6, 10, 14}, {3, 7, 11, 15},
			{0, 5, 10, 15}, {1, 6, 11, 12}, {2, 7, 8, 13}, {3, 4, 9, 14},
		} {
			a, b, c, d := &x[at[0]], &x[at[1]], &x[at[2]], &x[at[3]]
			for _, step := range []struct {
				sum, other, turned *uint32
				by                 int
			}{{a, b, d, 16}, {c, d, b, 12}, {a, b, d, 8}, {c, d, b, 7}} {
				*step.sum += *step.other
				mixed := *step.turned ^ *step.sum
				*step.turned = mixed<<step.by | mixed>>(32-step.by)
			}
		}
	}
	var out []byte
	for i := range x {
		out = binary.LittleEndian.AppendUint32(out, x[i]+binary.LittleEndian.Uint32(first[4*i:]))
	}
	return out
}

// turned is b as the rule tells it: xored with the blocks one after another.
func turned(key api.Num, counter uint32, nonce api.Nonce, b []byte) []byte {
	var stream []byte
	for len(stream) < len(b) {
		stream = append(stream, ruled(key, counter, nonce)...)
		counter++
	}
	out := slices.Clone(b)
	for i := range out {
		out[i] ^= stream[i]
	}
	return out
}

// The blocks of the RFC: of section 2.3.2 and of the appendix A.1.
func TestBlockByHand(t *testing.T) {
	zeros := strings.Repeat("0", 64)
	for i, x := range []struct {
		key     string
		counter int
		nonce   string
		want    string
	}{
		{
			"000102030405060708090a0b0c0d0e0f101112131415161718191a1b1c1d1e1f", 1, "000000090000004a00000000",
			"10f1e7e4d13b5915500fdd1fa32071c4c7d1f4c733c068030422aa9ac3d46c4e" +
				"d2826446079faa0914c2d705d98b02a2b5129cd1de164eb9cbd083e8a2503c4e",
		},
		{
			zeros, 0, zeros[:24],
			"76b8e0ada0f13d90405d6ae55386bd28bdd219b8a08ded1aa836efcc8b770dc7" +
				"da41597c5157488d7724e03fb8d84a376a43b8f41518a11cc387b669b2ee6586",
		},
		{
			zeros, 1, zeros[:24],
			"9f07e7be5551387a98ba977c732d080dcb0f29a048e3656912c6533e32ee7aed" +
				"29b721769ce64e43d57133b074d839d531ed1f28510afb45ace10a1f4b794d6f",
		},
		{
			zeros[:62] + "01", 1, zeros[:24],
			"3aeb5224ecf849929b9d828db1ced4dd832025e8018b8160b82284f3c949aa5a" +
				"8eca00bbb4a73bdad192b5c42f73f2fd4e273644c8b36125a64addeb006c13a0",
		},
		{
			"00ff" + zeros[:60], 2, zeros[:24],
			"72d54dfbf12ec44b362692df94137f328fea8da73990265ec1bbbea1ae9af0ca" +
				"13b25aa26cb4a648cb9b9d1be65b2c0924a66c54d545ec1b7374f4872e99f096",
		},
		{
			zeros, 0, zeros[:22] + "02",
			"c2c64d378cd536374ae204b9ef933fcd1a8b2288b3dfa49672ab765b54ee27c7" +
				"8a970e0e955c14f3a88e741b97c286f75f8fc299e8148362fa198a39531bed6d",
		},
	} {
		key, nonce := api.Num(unhex(t, x.key)), api.Nonce(unhex(t, x.nonce))
		got := Block(key, x.counter, nonce)
		if hex.EncodeToString(got[:]) != x.want {
			t.Errorf("P901: the example %d: Block: %x", i+1, got)
		}
		if stream := Turn(key, x.counter, nonce, make([]byte, 64)); hex.EncodeToString(stream) != x.want {
			t.Errorf("P901: the example %d: Turn of bytes 0: %x", i+1, stream)
		}
		if rule := ruled(key, uint32(x.counter), nonce); hex.EncodeToString(rule) != x.want {
			t.Errorf("the example %d: the rule of this test: %x", i+1, rule)
		}
	}
}

// The texts of the RFC: of section 2.4.2 and of the appendix A.2.
func TestTurnByHand(t *testing.T) {
	for i, x := range []struct {
		key         string
		counter     int
		nonce       string
		plain, want string
	}{
		{
			"000102030405060708090a0b0c0d0e0f101112131415161718191a1b1c1d1e1f", 1, "000000000000004a00000000",
			"Ladies and Gentlemen of the class of '99: If I could offer you only one tip for the future, " +
				"sunscreen would be it.",
			"6e2e359a2568f98041ba0728dd0d6981e97e7aec1d4360c20a27afccfd9fae0bf91b65c5524733ab8f593dabcd62b357" +
				"1639d624e65152ab8f530c359f0861d807ca0dbf500d6a6156a38e088a22b65e52bc514d16ccf806818ce91ab7793736" +
				"5af90bbf74a35be6b40b8eedf2785e42874d",
		},
		{
			"1c9240a5eb55d38af333888604f6b5f0473917c1402b80099dca5cbc207075c0", 42, "000000000000000000000002",
			"'Twas brillig, and the slithy toves\nDid gyre and gimble in the wabe:\nAll mimsy were the borogoves,\n" +
				"And the mome raths outgrabe.",
			"62e6347f95ed87a45ffae7426f27a1df5fb69110044c0d73118effa95b01e5cf166d3df2d721caf9b21e5fb14c616871" +
				"fd84c54f9d65b283196c7fe4f60553ebf39c6402c42234e32a356b3e764312a61a5532055716ead6962568f87d3f3f77" +
				"04c6a8d1bcd1bf4d50d6154b6da731b187b58dfd728afa36757a797ac188d1",
		},
	} {
		key, nonce := api.Num(unhex(t, x.key)), api.Nonce(unhex(t, x.nonce))
		got := Turn(key, x.counter, nonce, []byte(x.plain))
		if hex.EncodeToString(got) != x.want {
			t.Errorf("P901: the example %d: Turn: %x", i+1, got)
		}
		if back := Turn(key, x.counter, nonce, unhex(t, x.want)); string(back) != x.plain {
			t.Errorf("P901: the example %d: Turn of what is encrypted: %q", i+1, back)
		}
	}
}

func TestBlockOfAnyCounter(t *testing.T) {
	for _, counter := range counters() {
		for seed := range byte(3) {
			key, nonce := numDrawn(seed), nonceDrawn(seed+10)
			got := Block(key, counter, nonce)
			if want := ruled(key, uint32(counter), nonce); !bytes.Equal(got[:], want) {
				t.Errorf("P901: Block %#x: %x", counter, got)
			}
			if got != Block(key, counter&(1<<32-1), nonce) {
				t.Errorf("P901: Block %#x: another than of the lowest 32 bits", counter)
			}
		}
	}
}

func TestBlockOfEachBitOfTheCounter(t *testing.T) {
	key, nonce := numDrawn(20), nonceDrawn(21)
	for _, counter := range []int{0, 1, -1, 0x0123456789abcdef} {
		plain := Block(key, counter, nonce)
		for i := range 64 {
			if got := Block(key, counter^1<<i, nonce); (got == plain) != (i >= 32) {
				t.Errorf("P901: Block %#x with the bit %d turned: the same block: %v", counter, i, got == plain)
			}
		}
	}
	if Block(key, 1<<32+1, nonce) != Block(key, 1, nonce) {
		t.Error("P901: Block 2^32 + 1: another than Block 1")
	}
}

func TestBlockOfEachBitOfKeyAndNonce(t *testing.T) {
	given := map[api.Sig]int{}
	check := func(at int, key api.Num, nonce api.Nonce) {
		got := Block(key, 1, nonce)
		if !bytes.Equal(got[:], ruled(key, 1, nonce)) {
			t.Errorf("P901: Block of the key %x and the nonce %x: %x", key, nonce, got)
		}
		if before, ok := given[got]; ok {
			t.Errorf("P901: the case %d: the same block as of the case %d", at, before)
		}
		given[got] = at
	}
	check(0, api.Num{}, api.Nonce{})
	for i := range 256 {
		var key api.Num
		key[i/8] = 1 << (i % 8)
		check(1+i, key, api.Nonce{})
	}
	for i := range 96 {
		var nonce api.Nonce
		nonce[i/8] = 1 << (i % 8)
		check(257+i, api.Num{}, nonce)
	}
}

func TestBlockOfAnyKeyAndNonce(t *testing.T) {
	for _, k := range kinds(32) {
		for _, n := range kinds(12) {
			key, nonce := api.Num(k), api.Nonce(n)
			if got := Block(key, 7, nonce); !bytes.Equal(got[:], ruled(key, 7, nonce)) {
				t.Errorf("P901: Block of the key %x and the nonce %x: %x", k, n, got)
			}
		}
	}
	for seed := range byte(250) {
		key, nonce, counter := numDrawn(seed), nonceDrawn(seed), int(binary.LittleEndian.Uint64(drawn(seed, 48)[40:]))
		if got := Block(key, counter, nonce); !bytes.Equal(got[:], ruled(key, uint32(counter), nonce)) {
			t.Errorf("P901: Block %#x of the key %x and the nonce %x: %x", counter, key, nonce, got)
		}
	}
}

func TestTurnOfNoBytes(t *testing.T) {
	for _, b := range [][]byte{nil, {}, make([]byte, 0, 100), drawn(30, 70)[:0]} {
		for _, counter := range counters() {
			if got := Turn(numDrawn(31), counter, nonceDrawn(32), b); len(got) != 0 {
				t.Errorf("P901: Turn %#x of no bytes: %x", counter, got)
			}
		}
	}
}

func TestTurnOfAnyLength(t *testing.T) {
	key, nonce := numDrawn(33), nonceDrawn(34)
	for n := range 400 {
		for i, b := range kinds(n) {
			counter := 1000*i + n
			got := Turn(key, counter, nonce, b)
			if !bytes.Equal(got, turned(key, uint32(counter), nonce, b)) {
				t.Errorf("P901: Turn %d of the %d bytes %x: %x", counter, n, b, got)
			}
			if back := Turn(key, counter, nonce, got); !bytes.Equal(back, b) {
				t.Errorf("P901: Turn %d twice of the %d bytes %x: %x", counter, n, b, back)
			}
		}
	}
	for _, n := range []int{1023, 1024, 1025, 1 << 16, 1<<18 + 1, 1<<20 + 63} {
		b := drawn(35, n)
		if !bytes.Equal(Turn(key, 1, nonce, b), turned(key, 1, nonce, b)) {
			t.Errorf("P901: Turn of %d bytes: other bytes", n)
		}
	}
}

// The counter goes on from the last one of 32 bits to 0, and the nonce stays as it is.
func TestTurnFromAnyCounter(t *testing.T) {
	key, nonce := numDrawn(36), nonceDrawn(37)
	for _, counter := range counters() {
		for _, n := range []int{1, 64, 65, 128, 200, 300} {
			b := drawn(38, n)
			got := Turn(key, counter, nonce, b)
			if !bytes.Equal(got, turned(key, uint32(counter), nonce, b)) {
				t.Errorf("P901: Turn %#x of %d bytes: %x", counter, n, got)
			}
			if !bytes.Equal(Turn(key, counter, nonce, got), b) {
				t.Errorf("P901: Turn %#x twice of %d bytes: other bytes", counter, n)
			}
		}
	}
}

func TestTurnIsMadeOfBlocks(t *testing.T) {
	key, nonce := numDrawn(39), nonceDrawn(40)
	for _, counter := range []int{0, 1, 1<<32 - 3, -2, math.MaxInt - 1, math.MinInt} {
		stream := Turn(key, counter, nonce, make([]byte, 64*6+5))
		low := counter & (1<<32 - 1)
		for i := range 6 {
			if block := Block(key, low+i, nonce); !bytes.Equal(stream[64*i:64*i+64], block[:]) {
				t.Errorf("P901: Turn %#x: the block %d: %x", counter, i, stream[64*i:64*i+64])
			}
		}
		if block := Block(key, low+6, nonce); !bytes.Equal(stream[64*6:], block[:5]) {
			t.Errorf("P901: Turn %#x: the end: %x", counter, stream[64*6:])
		}
	}
}

func TestTurnOfEachBit(t *testing.T) {
	key, nonce, b := numDrawn(41), nonceDrawn(42), drawn(43, 130)
	plain := Turn(key, 5, nonce, b)
	for i := range 8 * len(b) {
		b[i/8] ^= 1 << (i % 8)
		plain[i/8] ^= 1 << (i % 8)
		if got := Turn(key, 5, nonce, b); !bytes.Equal(got, plain) {
			t.Errorf("P901: Turn with the bit %d turned: %x", i, got)
		}
	}
}

func TestArgumentsAreLeft(t *testing.T) {
	key, nonce := numDrawn(44), nonceDrawn(45)
	for _, n := range []int{0, 1, 63, 64, 65, 127, 128, 129, 200} {
		b := drawn(46, 300)
		kept := slices.Clone(b)
		got := Turn(key, 3, nonce, b[:n])
		Block(key, 3, nonce)
		if !bytes.Equal(b, kept) || key != numDrawn(44) || nonce != nonceDrawn(45) {
			t.Errorf("P902 (P102): of %d bytes, an argument was changed", n)
		}
		want := slices.Clone(got)
		clear(b)
		if !bytes.Equal(got, want) {
			t.Errorf("P902 (P102): Turn of %d bytes: the answer shares memory with the argument", n)
		}
		if !bytes.Equal(Turn(key, 3, nonce, kept[:n]), want) {
			t.Errorf("P902 (P102): Turn of %d bytes: an argument was kept", n)
		}
	}
}

func TestAnswersAreNew(t *testing.T) {
	key, nonce := numDrawn(47), nonceDrawn(48)
	for _, n := range []int{1, 63, 64, 65, 128, 1000} {
		b := drawn(49, n)
		first, second := Turn(key, 9, nonce, b), Turn(key, 9, nonce, b)
		want := slices.Clone(first)
		clear(first[:cap(first)])
		if !bytes.Equal(second, want) || !bytes.Equal(Turn(key, 9, nonce, b), want) || !bytes.Equal(b, drawn(49, n)) {
			t.Errorf("P902 (P102): Turn of %d bytes: the answer is shared", n)
		}
		if rest := second[n:cap(second)]; !bytes.Equal(rest, make([]byte, len(rest))) {
			t.Errorf("P902 (P102): Turn of %d bytes: behind the answer stands %x", n, rest)
		}
	}
}

func TestAnswersHangOnTheArgumentsOnly(t *testing.T) {
	room, key, nonce := drawn(50, 300), numDrawn(51), nonceDrawn(52)
	out, blocks := make([][]byte, len(room)), make([]api.Sig, len(room))
	var wait sync.WaitGroup
	for n := range room {
		wait.Go(func() {
			out[n] = Turn(key, -n, nonce, room[:n])
			blocks[n] = Block(key, -n, nonce)
		})
	}
	wait.Wait()
	for n := range room {
		want := turned(key, uint32(-n), nonce, room[:n])
		if !bytes.Equal(out[n], want) || !bytes.Equal(Turn(key, -n, nonce, room[:n]), want) {
			t.Errorf("P902 (P102): Turn of %d bytes: another answer to the same arguments", n)
		}
		if !bytes.Equal(blocks[n][:], ruled(key, uint32(-n), nonce)) || blocks[n] != Block(key, -n, nonce) {
			t.Errorf("P902 (P102): Block %d: another answer to the same arguments", -n)
		}
	}
}

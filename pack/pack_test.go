package pack

import (
	"bytes"
	"math"
	"strconv"
	"strings"
	"testing"
)

// encoded pairs numbers with their bytes, written out by hand.
func encoded() []struct {
	n int
	b string
} {
	return []struct {
		n int
		b string
	}{
		{0, "\x00\x00\x00\x00\x00\x00\x00\x00"},
		{1, "\x00\x00\x00\x00\x00\x00\x00\x01"},
		{255, "\x00\x00\x00\x00\x00\x00\x00\xff"},
		{256, "\x00\x00\x00\x00\x00\x00\x01\x00"},
		{1 << 31, "\x00\x00\x00\x00\x80\x00\x00\x00"},
		{1<<32 - 1, "\x00\x00\x00\x00\xff\xff\xff\xff"},
		{0x0102030405060708, "\x01\x02\x03\x04\x05\x06\x07\x08"},
		{math.MaxInt, "\x7f\xff\xff\xff\xff\xff\xff\xff"},
		{-1, "\xff\xff\xff\xff\xff\xff\xff\xff"},
		{-2, "\xff\xff\xff\xff\xff\xff\xff\xfe"},
		{-256, "\xff\xff\xff\xff\xff\xff\xff\x00"},
		{math.MinInt, "\x80\x00\x00\x00\x00\x00\x00\x00"},
		{-0x0102030405060708, "\xfe\xfd\xfc\xfb\xfa\xf9\xf8\xf8"},
	}
}

// length is the encoding of a length below 256.
func length(n int) string {
	return strings.Repeat("\x00", 7) + string([]byte{byte(n)})
}

func TestInt(t *testing.T) {
	var all []int
	behind := ""
	for _, x := range encoded() {
		if got := string(Int(nil, x.n)); got != x.b {
			t.Errorf("P201: Int(nil, %d): %q", x.n, got)
		}
		if got := string(Int([]byte("ab"), x.n)); got != "ab"+x.b {
			t.Errorf("P201: Int(ab, %d): %q", x.n, got)
		}
		all = append(all, x.n)
		behind += x.b
	}
	if got := string(Int([]byte("ab"), all...)); got != "ab"+behind {
		t.Errorf("P201: Int of many: %q", got)
	}
	if got := string(Int(nil, 2, 1, 2)); got != length(2)+length(1)+length(2) {
		t.Errorf("P201: Int(nil, 2, 1, 2): %q", got)
	}
	if len(Int(nil)) != 0 || len(Int([]byte{})) != 0 || string(Int([]byte("ab"))) != "ab" {
		t.Error("P201: Int without numbers")
	}
}

func TestBytes(t *testing.T) {
	big := bytes.Repeat([]byte{7}, 0x010203)
	for i, x := range []struct {
		b    string
		l    [][]byte
		want string
	}{
		{"x", [][]byte{[]byte("ab"), {}}, "x" + length(2) + "ab" + length(0)},
		{"x", [][]byte{[]byte("ab"), nil}, "x" + length(2) + "ab" + length(0)},
		{"", nil, ""},
		{"x", nil, "x"},
		{"", [][]byte{nil}, length(0)},
		{"", [][]byte{{}, []byte("a"), {}, []byte("bcd")}, length(0) + length(1) + "a" + length(0) + length(3) + "bcd"},
		{"\x00\xff", [][]byte{[]byte("\xff\x00")}, "\x00\xff" + length(2) + "\xff\x00"},
		{"", [][]byte{big[:255], big[:256]}, length(255) + string(big[:255]) + "\x00\x00\x00\x00\x00\x00\x01\x00" + string(big[:256])},
		{"", [][]byte{big}, "\x00\x00\x00\x00\x00\x01\x02\x03" + string(big)},
	} {
		if got := string(Bytes([]byte(x.b), x.l...)); got != x.want {
			t.Errorf("P201: Bytes %d: %d bytes, want %d", i, len(got), len(x.want))
		}
	}
	if len(Bytes(nil)) != 0 || string(Bytes(nil, nil)) != length(0) {
		t.Error("P201: Bytes behind none")
	}
}

func TestNew(t *testing.T) {
	for _, b := range [][]byte{nil, {}} {
		if c := New(b); !c.End() || c.Bad() || c.Left() != 0 {
			t.Errorf("P202: New(%#v): End %v, Bad %v, Left %d", b, c.End(), c.Bad(), c.Left())
		}
	}
	c := New([]byte("abc"))
	if c.End() || c.Bad() || c.Left() != 3 {
		t.Errorf("P202: New(abc): End %v, Bad %v, Left %d", c.End(), c.Bad(), c.Left())
	}
	if got := string(c.Raw(1)); got != "a" {
		t.Errorf("P202: the first byte: %q", got)
	}
}

// at holds a cursor that is not bad against what it must tell.
func at(t *testing.T, c *Cursor, left int) {
	t.Helper()
	if c.Bad() || c.Left() != left || c.End() != (left == 0) {
		t.Errorf("P202: Bad %v, Left %d, End %v, with %d bytes to come", c.Bad(), c.Left(), c.End(), left)
	}
}

// staysBad calls everything on a cursor that must be bad, in another order each time.
func staysBad(t *testing.T, what string, c *Cursor) {
	t.Helper()
	for range 2 {
		if !c.Bad() || c.End() || c.Left() != 0 {
			t.Errorf("P202: %q: Bad %v, End %v, Left %d", what, c.Bad(), c.End(), c.Left())
		}
		if b := c.Raw(0); len(b) != 0 || !c.Bad() || c.End() {
			t.Errorf("P202: %q: Raw(0): %q, Bad %v", what, b, c.Bad())
		}
		if n := c.Int(); n != 0 || !c.Bad() {
			t.Errorf("P202: %q: Int: %d, Bad %v", what, n, c.Bad())
		}
		if b := c.Raw(1); len(b) != 0 || !c.Bad() {
			t.Errorf("P202: %q: Raw(1): %q, Bad %v", what, b, c.Bad())
		}
		if b := c.Bytes(); len(b) != 0 || !c.Bad() {
			t.Errorf("P202: %q: Bytes: %q, Bad %v", what, b, c.Bad())
		}
	}
}

func TestCursorInt(t *testing.T) {
	behind := ""
	for _, x := range encoded() {
		c := New([]byte(x.b))
		if n := c.Int(); n != x.n {
			t.Errorf("P202: Int of %q: %d", x.b, n)
		}
		at(t, c, 0)
		behind += x.b
	}
	c := New([]byte(behind + "x"))
	for _, x := range encoded() {
		if n := c.Int(); n != x.n {
			t.Errorf("P202: Int of many: %d, want %d", n, x.n)
		}
	}
	at(t, c, 1)
	if n := c.Int(); n != 0 {
		t.Errorf("P202: Int of one byte: %d", n)
	}
	staysBad(t, "Int of one byte", c)
}

func TestCursorIntOfTooFew(t *testing.T) {
	for k := range 8 {
		c := New(bytes.Repeat([]byte{1}, k))
		at(t, c, k)
		if n := c.Int(); n != 0 {
			t.Errorf("P202: Int of %d bytes: %d", k, n)
		}
		staysBad(t, "Int of too few", c)
	}
}

func TestCursorBytes(t *testing.T) {
	long := strings.Repeat("z", 200)
	c := New([]byte(length(2) + "ab" + length(0) + length(200) + long + length(0)))
	for i, want := range []struct {
		b    string
		left int
	}{{"ab", 224}, {"", 216}, {long, 8}, {"", 0}} {
		if b := string(c.Bytes()); b != want.b {
			t.Errorf("P202: Bytes %d: %q", i, b)
		}
		at(t, c, want.left)
	}
	if b := c.Bytes(); len(b) != 0 {
		t.Errorf("P202: Bytes at the end: %q", b)
	}
	staysBad(t, "Bytes at the end", c)
}

func TestCursorBytesThatCannotBeRead(t *testing.T) {
	for i, b := range []string{
		"", "\x00", length(0)[:7], "\x01\x01\x01\x01\x01\x01\x01", // no length
		length(3), length(3) + "ab", length(1), length(200) + strings.Repeat("a", 199), // too few behind it
		"\x00\x00\x00\x00\x00\x00\x01\x00" + strings.Repeat("a", 255),
		"\xff\xff\xff\xff\xff\xff\xff\xff" + "ab", "\xff\xff\xff\xff\xff\xff\xff\xff", // negative
		"\x80\x00\x00\x00\x00\x00\x00\x00" + "abcdefgh", "\xff\xff\xff\xff\x00\x00\x00\x01" + "ab", "\xff\xff\xff\xff\xff\xff\xff\xf8" + "ab",
		"\x7f\xff\xff\xff\xff\xff\xff\xff" + "ab", "\x7f\xff\xff\xff\xff\xff\xff\xf8" + "ab", // very great
		"\x00\x00\x00\x01\x00\x00\x00\x02" + "ab", "\x01\x00\x00\x00\x00\x00\x00\x02" + "ab",
	} {
		c := New([]byte(b))
		if x := c.Bytes(); len(x) != 0 {
			t.Errorf("P202: Bytes %d: %q", i, x)
		}
		staysBad(t, "Bytes of "+b, c)

		c = New([]byte("x" + b))
		c.Raw(1)
		at(t, c, len(b))
		if x := c.Bytes(); len(x) != 0 {
			t.Errorf("P202: Bytes %d, further on: %q", i, x)
		}
		staysBad(t, "Bytes, further on, of "+b, c)
	}
}

func TestCursorRaw(t *testing.T) {
	c := New([]byte("abcdef"))
	for i, x := range []struct {
		n    int
		b    string
		left int
	}{{0, "", 6}, {1, "a", 5}, {3, "bcd", 2}, {0, "", 2}, {2, "ef", 0}, {0, "", 0}} {
		if b := string(c.Raw(x.n)); b != x.b {
			t.Errorf("P202: Raw %d: %q", i, b)
		}
		at(t, c, x.left)
	}
	if b := c.Raw(1); len(b) != 0 {
		t.Errorf("P202: Raw(1) at the end: %q", b)
	}
	staysBad(t, "Raw(1) at the end", c)
}

func TestCursorRawThatCannotBeRead(t *testing.T) {
	for _, n := range []int{-1, -2, math.MinInt, math.MinInt + 1, -4, 4, 5, 1 << 31, 1 << 32, math.MaxInt, math.MaxInt - 1} {
		for _, ahead := range []int{0, 1, 3} {
			c := New([]byte("abcdef"))
			c.Raw(3 + ahead)
			if b := c.Raw(n); len(b) != 0 {
				t.Errorf("P202: Raw(%d): %q", n, b)
			}
			staysBad(t, "Raw", c)
		}
	}
	c := New(nil)
	if b := c.Raw(-1); len(b) != 0 {
		t.Errorf("P202: Raw(-1): %q", b)
	}
	staysBad(t, "Raw(-1)", c)
}

func TestBadIsNotMended(t *testing.T) {
	b := []byte(length(1) + length(2) + "ab" + length(3))
	for i, spoil := range []func(c *Cursor){
		func(c *Cursor) { c.Raw(-1) },
		func(c *Cursor) { c.Raw(27) },
		func(c *Cursor) { c.Raw(20); c.Int() },
		func(c *Cursor) { c.Raw(18); c.Bytes() },
		func(c *Cursor) { c.Int(); c.Bytes(); c.Bytes() },
	} {
		c := New(b)
		spoil(c)
		staysBad(t, "spoilt in way "+strconv.Itoa(i), c)
	}
}

func TestTellingChangesNothing(t *testing.T) {
	c := New([]byte(length(5) + "x"))
	for range 3 {
		at(t, c, 9)
	}
	if n := c.Int(); n != 5 {
		t.Errorf("P202: Int: %d", n)
	}
	for range 3 {
		at(t, c, 1)
	}
}

func TestWhatIsEncodedIsRead(t *testing.T) {
	b := []byte("head")
	for _, x := range encoded() {
		b = Bytes(Int(b, x.n, -x.n), []byte(x.b), nil, []byte(x.b[:3]))
	}
	c := New(b)
	if h := string(c.Raw(4)); h != "head" {
		t.Errorf("P202: Raw(4): %q", h)
	}
	for _, x := range encoded() {
		n, minus := c.Int(), c.Int()
		one, two, three := string(c.Bytes()), string(c.Bytes()), string(c.Bytes())
		if n != x.n || minus != -x.n || one != x.b || two != "" || three != x.b[:3] {
			t.Errorf("P202: %d: %d, %d, %q, %q, %q", x.n, n, minus, one, two, three)
		}
	}
	at(t, c, 0)
}

func TestEncodingLeavesItsArguments(t *testing.T) {
	memory := []byte("ab" + strings.Repeat("-", 100))
	kept := string(memory)
	b := memory[:2]
	numbers, strs := []int{1, -2, 3}, [][]byte{memory[2:5], memory[1:2], nil}
	for i, got := range [][]byte{Int(b), Int(b, numbers...), Bytes(b), Bytes(b, strs...)} {
		if string(memory) != kept {
			t.Fatalf("P203: call %d wrote into its argument", i)
		}
		got = got[:cap(got)]
		for j := range got {
			got[j] = '#'
		}
		if string(memory) != kept {
			t.Fatalf("P203: what call %d answered shares memory with its argument", i)
		}
	}
	if numbers[0] != 1 || numbers[1] != -2 || numbers[2] != 3 || string(strs[0]) != "---" || string(strs[1]) != "b" || strs[2] != nil {
		t.Errorf("P203: %v, %q", numbers, strs)
	}
}

// A byte string may lie where an append to b would write.
func TestBytesOfItsOwnRoom(t *testing.T) {
	memory := []byte("x0123456789abcdefghij")
	if got := string(Bytes(memory[:1], memory[1:4], memory[:20])); got != "x"+length(3)+"012"+length(20)+"x0123456789abcdefghi" {
		t.Errorf("P203: %q", got)
	}
}

func TestAnswersShareNothing(t *testing.T) {
	b := Int([]byte("ab"), 1)
	one, two := Int(b, 2), Int(b, 3)
	if string(one) != "ab"+length(1)+length(2) || string(two) != "ab"+length(1)+length(3) {
		t.Errorf("P203: %q, %q", one, two)
	}
	one, two = Bytes(b, []byte("cd")), Bytes(b, []byte("ef"))
	if string(one) != "ab"+length(1)+length(2)+"cd" || string(two) != "ab"+length(1)+length(2)+"ef" {
		t.Errorf("P203: %q, %q", one, two)
	}
}

func TestCursorKeepsNoArgument(t *testing.T) {
	b := []byte(length(2) + "ab" + "cd")
	c := New(b)
	for i := range b {
		b[i] = 0x77
	}
	if x, y := string(c.Bytes()), string(c.Raw(2)); x != "ab" || y != "cd" {
		t.Errorf("P203: %q, %q", x, y)
	}
}

func TestCursorHandsOutCopies(t *testing.T) {
	b := []byte("xy" + length(2) + "ab" + "cd" + length(4))
	kept := string(b)
	c := New(b)
	spoil := func(x []byte, want string) {
		t.Helper()
		if string(x) != want {
			t.Errorf("P203: %q, want %q", x, want)
		}
		x = x[:cap(x)]
		for i := range x {
			x[i] = '#'
		}
	}
	spoil(c.Raw(2), "xy")
	spoil(c.Raw(0), "")
	spoil(c.Bytes(), "ab")
	spoil(c.Raw(2), "cd")
	if n := c.Int(); n != 4 || !c.End() {
		t.Errorf("P203: Int: %d, Left %d", n, c.Left())
	}
	if string(b) != kept {
		t.Errorf("P203: the argument became %q", b)
	}
}

func TestCursorsAreApart(t *testing.T) {
	b := []byte(length(5) + length(6))
	one, two := New(b), New(b)
	one.Raw(-1)
	if n, m := two.Int(), two.Int(); n != 5 || m != 6 || !two.End() {
		t.Errorf("P203: %d, %d", n, m)
	}
	if three := New(b); three.Int() != 5 || three.Left() != 8 {
		t.Error("P203: another answer to the same argument")
	}
	staysBad(t, "the first of them", one)
}

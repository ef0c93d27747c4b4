package flash

import (
	"bytes"
	"math"
	"math/rand/v2"
	"slices"
	"sync"
	"testing"

	"portcullis/api"
	"portcullis/toll"
)

// drawn are n bytes, always the same ones for the same seed.
func drawn(seed uint64, n int) []byte {
	b := make([]byte, n)
	draw := rand.New(rand.NewPCG(19, seed))
	for i := range b {
		b[i] = byte(draw.Uint32())
	}
	return b
}

func filled(n int, x byte) []byte { return bytes.Repeat([]byte{x}, n) }

// poked is a memory of these bytes, which fill its sectors.
func poked(t *testing.T, b []byte) *Flash {
	t.Helper()
	f := New(len(b) / 256)
	if !f.Poke(0, b) || !bytes.Equal(f.Image(), b) {
		t.Fatalf("P1901: Poke of all %d bytes", len(b))
	}
	return f
}

// laid is a copy of b in which the bytes from at on are x.
func laid(b []byte, at int, x []byte) []byte {
	b = slices.Clone(b)
	copy(b[at:], x)
	return b
}

// anded is a copy of b in which the bytes from at on have lost the bits that x has not.
func anded(b []byte, at int, x []byte) []byte {
	b = slices.Clone(b)
	for i := range x {
		b[at+i] &= x[i]
	}
	return b
}

// is checks the bytes of f.
func is(t *testing.T, promise string, f *Flash, want []byte) {
	t.Helper()
	got := f.Image()
	if len(got) != len(want) {
		t.Fatalf("%s: %d bytes, want %d", promise, len(got), len(want))
	}
	for i := range got {
		if got[i] != want[i] {
			t.Fatalf("%s: the byte %d is %d, want %d", promise, i, got[i], want[i])
		}
	}
}

// alive checks that f isn't Dead, and that the next many operations go well.
func alive(t *testing.T, promise string, f *Flash, many int) {
	t.Helper()
	if f.Dead() {
		t.Fatalf("%s: it is Dead", promise)
	}
	for n := range many {
		if !f.Turn() || f.Dead() {
			t.Fatalf("%s: the operation %d fails", promise, n)
		}
	}
}

// dead checks that f is Dead, and that nothing but what an attacker may do can be done with it.
func dead(t *testing.T, promise string, f *Flash) {
	t.Helper()
	before, cost := f.Image(), f.Toll()
	if !f.Dead() {
		t.Fatalf("%s: it isn't Dead", promise)
	}
	if f.Turn() || f.Erase(0) || f.Erase(-1) || f.Program(0, nil) || f.Program(0, []byte{0}) || f.Program(-1, nil) {
		t.Fatalf("%s: an operation goes well while it is Dead", promise)
	}
	for _, x := range [][2]int{{0, 0}, {0, 1}, {-1, 0}, {0, -1}, {len(before), 0}} {
		if b, ok := f.Read(x[0], x[1]); b != nil || ok {
			t.Fatalf("%s: Read(%d, %d) while it is Dead: %x, %v", promise, x[0], x[1], b, ok)
		}
	}
	if !f.Dead() || f.Toll() != cost || f.Size() != len(before)/256 {
		t.Fatalf("%s: not as it was: %v, %v, %d", promise, f.Dead(), f.Toll(), f.Size())
	}
	is(t, promise, f, before)
}

// extremes are numbers that no place and no sector of a memory has, nor is it after a product or a sum that wraps round.
func extremes() []int {
	l := []int{math.MinInt, math.MinInt + 1, math.MinInt + 512, math.MinInt32, -513, -512, -257, -256, -255, -2, -1}
	l = append(l, 1<<18, 1<<18+1, 1<<20, math.MaxInt32, 1<<32, 1<<32+1)
	for bit := 53; bit < 63; bit++ {
		l = append(l, 1<<bit-1, 1<<bit, 1<<bit+1, -1<<bit, -1<<bit+1)
	}
	return append(l, math.MaxInt/256, math.MaxInt-512, math.MaxInt-1, math.MaxInt)
}

func TestNew(t *testing.T) {
	for _, x := range []struct{ sectors, size int }{
		{0, 0}, {1, 1}, {2, 2}, {3, 3}, {63, 63}, {64, 64}, {128, 128}, {255, 255}, {256, 256}, {1000, 1000},
		{1023, 1023}, {1024, 1024}, {1025, 1024}, {1026, 1024}, {2048, 1024}, {1 << 18, 1024}, {1 << 32, 1024}, {1<<32 + 1, 1024},
		{math.MaxInt / 256, 1024}, {math.MaxInt/256 + 1, 1024}, {1 << 56, 1024}, {1<<56 + 1, 1024}, {math.MaxInt, 1024},
		{-1, 0}, {-2, 0}, {-255, 0}, {-1024, 0}, {math.MinInt32, 0}, {-1<<56 + 1, 0}, {math.MinInt, 0}, {math.MinInt + 1, 0},
	} {
		f := New(x.sectors)
		if f.Size() != x.size || f.Toll() != 0 {
			t.Errorf("P1901: New(%d): %d sectors, %v", x.sectors, f.Size(), f.Toll())
		}
		is(t, "P1901: New", f, filled(256*x.size, 255))
		if b, ok := f.Read(0, 256*x.size); !ok || !bytes.Equal(b, f.Image()) {
			t.Errorf("P1901: New(%d): Read of all: %d bytes, %v", x.sectors, len(b), ok)
		}
		if b, ok := f.Read(0, 256*x.size+1); b != nil || ok {
			t.Errorf("P1901: New(%d): Read of more than all: %d bytes, %v", x.sectors, len(b), ok)
		}
		alive(t, "P1901: New", f, 300)
	}
}

// The examples of the chapter.
func TestOfTheChapter(t *testing.T) {
	if f := New(-1); f.Size() != 0 || len(f.Image()) != 0 {
		t.Errorf("P1901: New(-1): %d sectors", f.Size())
	}
	if n := New(1025).Size(); n != 1024 {
		t.Errorf("P1901: New(1025): %d sectors", n)
	}
	f := New(2)
	if b, ok := f.Read(512, 1); b != nil || ok {
		t.Errorf("P1901: Read(512, 1): %x, %v", b, ok)
	}
	if b, ok := f.Read(512, 0); len(b) != 0 || !ok {
		t.Errorf("P1901: Read(512, 0): %x, %v", b, ok)
	}
	if f.Erase(-1) {
		t.Error("P1901: Erase(-1)")
	}
	if !f.Program(7, []byte{240}) || !f.Program(7, []byte{15}) || !bytes.Equal(f.Image(), laid(filled(512, 255), 7, []byte{0})) {
		t.Errorf("P1901: Program of 240 and 15: %x", f.Image())
	}
	if f.Poke(511, []byte{1, 2}) || !bytes.Equal(f.Image(), laid(filled(512, 255), 7, []byte{0})) {
		t.Errorf("P1901: Poke of two bytes at 511: %x", f.Image())
	}
	if !f.Program(100, []byte{1}) || !f.Erase(1) || f.Toll() != 1+3i {
		t.Errorf("P1901: Toll after three programs and an erase: %v", f.Toll())
	}
	if n := len(New(3).Image()); n != 768 {
		t.Errorf("P1901: Image of 3 sectors: %d bytes", n)
	}
	f = poked(t, make([]byte, 512))
	f.Plan(api.Crash{Op: 0, Cut: 3})
	if f.Erase(1) || !bytes.Equal(f.Image(), laid(make([]byte, 512), 256, []byte{255, 255, 255})) {
		t.Errorf("P1902: Erase after Plan: %x", f.Image())
	}
	if !f.Dead() || f.Turn() {
		t.Error("P1902: Dead and Turn after an operation that failed")
	}
	f = New(2)
	f.Plan(api.Crash{})
	f.Start()
	if !f.Turn() {
		t.Error("P1902: Turn after Plan and Start")
	}
}

func TestRead(t *testing.T) {
	b := drawn(1, 768)
	f := poked(t, b)
	for at := range 769 {
		for n := range 769 - at {
			if got, ok := f.Read(at, n); !ok || !bytes.Equal(got, b[at:at+n]) {
				t.Fatalf("P1901: Read(%d, %d): %x, %v", at, n, got, ok)
			}
		}
		for _, n := range []int{769 - at, 770 - at, 1024 - at, 1025, 1 << 18, 1<<18 + 1, math.MaxInt - at, math.MaxInt} {
			if got, ok := f.Read(at, n); got != nil || ok {
				t.Fatalf("P1901: Read(%d, %d): %x, %v", at, n, got, ok)
			}
		}
		for n := range 300 {
			if got, ok := f.Read(at, -1-n); got != nil || ok {
				t.Fatalf("P1901: Read(%d, %d): %x, %v", at, -1-n, got, ok)
			}
		}
	}
	is(t, "P1901: Read changes nothing", f, b)
	if f.Toll() != 0 {
		t.Errorf("P1901: Read costs %v", f.Toll())
	}
}

func TestReadOutOfRange(t *testing.T) {
	f := New(1024)
	for _, at := range extremes() {
		for _, n := range append(extremes(), 0, 1, 2, 3, 100, 256) {
			got, ok := f.Read(at, n)
			if at >= 0 && n == 0 {
				// None of these bytes is lacking: so says the chapter, and so does this test.
				if len(got) != 0 || !ok {
					t.Errorf("P1901: Read(%d, 0): %x, %v", at, got, ok)
				}
			} else if got != nil || ok {
				t.Errorf("P1901: Read(%d, %d): %d bytes, %v", at, n, len(got), ok)
			}
		}
	}
	for _, n := range extremes() {
		for _, at := range []int{0, 1, 255, 256, 1<<18 - 1, 1 << 18} {
			got, ok := f.Read(at, n)
			if want := n == 1<<18 && at == 0; ok != want || !want && got != nil {
				t.Errorf("P1901: Read(%d, %d): %d bytes, %v", at, n, len(got), ok)
			}
		}
	}
}

func TestErase(t *testing.T) {
	for _, b := range [][]byte{make([]byte, 1280), filled(1280, 255), filled(1280, 170), drawn(2, 1280)} {
		for sector := range 5 {
			f := poked(t, b)
			if !f.Erase(sector) || f.Toll() != 1 {
				t.Errorf("P1901: Erase(%d): %v", sector, f.Toll())
			}
			is(t, "P1901: Erase", f, laid(b, 256*sector, filled(256, 255)))
			if !f.Erase(sector) || f.Toll() != 2 {
				t.Errorf("P1901: another Erase(%d): %v", sector, f.Toll())
			}
			is(t, "P1901: another Erase", f, laid(b, 256*sector, filled(256, 255)))
		}
	}
}

func TestEraseOfNoSector(t *testing.T) {
	for _, sectors := range []int{0, 1, 2, 5, 1024} {
		b := drawn(3, 256*sectors)
		f := poked(t, b)
		for _, sector := range append(extremes(), sectors, sectors+1, sectors+255, 256*sectors+256, 1025, 2048, 2047) {
			if f.Erase(sector) {
				t.Errorf("P1901: Erase(%d) of %d sectors", sector, sectors)
			}
		}
		is(t, "P1901: Erase of no sector", f, b)
		if f.Toll() != 0 || f.Dead() {
			t.Errorf("P1901: Erase of no sector: %v, %v", f.Toll(), f.Dead())
		}
	}
	f := poked(t, make([]byte, 1<<18))
	if !f.Erase(1023) {
		t.Error("P1901: Erase(1023) of 1024 sectors")
	}
	is(t, "P1901: Erase of the last sector", f, laid(make([]byte, 1<<18), 1<<18-256, filled(256, 255)))
}

func TestProgramOfEachByte(t *testing.T) {
	f := New(1024)
	var want []byte
	for x := range 256 {
		for y := range 256 {
			at := 256*x + y
			if !f.Program(at, []byte{byte(x)}) || !f.Program(at, []byte{byte(y)}) {
				t.Fatalf("P1901: Program of %d and %d", x, y)
			}
			want = append(want, byte(x&y))
		}
	}
	is(t, "P1901: Program", f, append(want, filled(1<<18-1<<16, 255)...))
	if f.Toll() != complex(0, 2<<16) {
		t.Errorf("P1901: Toll: %v", f.Toll())
	}
}

func TestProgram(t *testing.T) {
	old := drawn(4, 768)
	for at := range 769 {
		for n := range 769 - at {
			if n > 20 && n != 255 && n != 256 && n != 257 && n < 767-at && (n+at)%97 != 0 {
				continue
			}
			f, x := poked(t, old), drawn(uint64(5+n), n)
			if !f.Program(at, x) || f.Toll() != 1i {
				t.Fatalf("P1901: Program of %d bytes at %d: %v", n, at, f.Toll())
			}
			if !bytes.Equal(f.Image(), anded(old, at, x)) {
				t.Fatalf("P1901: Program of %d bytes at %d: %x", n, at, f.Image())
			}
		}
	}
}

// Program and Poke look at the same places.
func TestPlacesThatDoNotExist(t *testing.T) {
	for _, sectors := range []int{0, 1, 3} {
		size := 256 * sectors
		b := drawn(6, size)
		f := poked(t, b)
		for _, at := range append(extremes(), 0, 1, size, size+1, size+255, size+256, size-1) {
			for _, n := range []int{0, 1, 2, 255, 256, 257, size, size + 1, size + 2, 1 << 18, 1<<18 + 1} {
				x := make([]byte, n)
				if at >= 0 && (n == 0 || at < size && n <= size-at) {
					continue
				}
				if f.Program(at, x) {
					t.Errorf("P1901: Program of %d bytes at %d, of %d", n, at, size)
				}
				if f.Poke(at, x) {
					t.Errorf("P1901: Poke of %d bytes at %d, of %d", n, at, size)
				}
			}
		}
		is(t, "P1901: Program and Poke of bytes that don't exist", f, b)
		if f.Toll() != 0 || f.Dead() {
			t.Errorf("P1901: Program of bytes that don't exist: %v, %v", f.Toll(), f.Dead())
		}
	}
}

// To program no bytes is an operation, and to poke none goes well, wherever that is: none of them is lacking.
func TestOfNoBytes(t *testing.T) {
	for _, sectors := range []int{0, 1, 3} {
		b := drawn(7, 256*sectors)
		f := poked(t, b)
		well := 0
		for _, none := range [][]byte{nil, {}, drawn(8, 9)[:0]} {
			for _, at := range append(extremes(), 0, 1, 256, 768, 769) {
				programs, pokes := f.Program(at, none), f.Poke(at, none)
				if programs != (at >= 0) || pokes != (at >= 0) {
					t.Errorf("P1901: of no bytes at %d: %v, %v", at, programs, pokes)
				}
				if programs {
					well++
				}
			}
		}
		if f.Toll() != complex(0, float64(well)) {
			t.Errorf("P1901: Toll after %d programs of no bytes: %v", well, f.Toll())
		}
		is(t, "P1901: of no bytes", f, b)
	}
}

func TestPoke(t *testing.T) {
	old := drawn(9, 768)
	for at := range 769 {
		for n := range 769 - at {
			if n > 20 && n != 255 && n != 256 && n != 257 && n < 767-at && (n+at)%97 != 0 {
				continue
			}
			f, x := poked(t, old), drawn(uint64(10+n), n)
			if !f.Poke(at, x) || !bytes.Equal(f.Image(), laid(old, at, x)) {
				t.Fatalf("P1901: Poke of %d bytes at %d: %x", n, at, f.Image())
			}
			if got, ok := f.Read(at, n); !ok || !bytes.Equal(got, x) {
				t.Fatalf("P1901: Read of %d bytes at %d that were poked: %x, %v", n, at, got, ok)
			}
		}
	}
	f := New(1)
	for x := range 256 {
		for y := range 256 {
			f.Poke(9, []byte{byte(x)})
			if f.Poke(9, []byte{byte(y)}); f.Image()[9] != byte(y) {
				t.Fatalf("P1901: Poke of %d and %d: %d", x, y, f.Image()[9])
			}
		}
	}
}

// Poke is no operation: it costs nothing, it is in no plan, and it needs no power.
func TestPokeIsNoOperation(t *testing.T) {
	f := New(2)
	f.Plan(api.Crash{Op: 2, Cut: 1})
	for n := range 10 {
		if !f.Poke(n, []byte{byte(n)}) || f.Poke(512, []byte{1}) || f.Dead() || f.Toll() != 0 {
			t.Fatalf("P1901: Poke %d: %v, %v", n, f.Dead(), f.Toll())
		}
	}
	if !f.Turn() || !f.Poke(20, []byte{1}) || !f.Turn() || !f.Poke(21, []byte{2}) || f.Dead() || f.Turn() {
		t.Fatal("P1901: Poke is in the plan")
	}
	dead(t, "P1901: Poke", f)
	before := f.Image()
	if !f.Poke(500, []byte{3, 4, 5}) || f.Poke(511, []byte{6, 7}) || f.Poke(-1, []byte{8}) || !f.Poke(512, nil) || !f.Dead() {
		t.Error("P1901: Poke while it is Dead")
	}
	is(t, "P1901: Poke while it is Dead", f, laid(before, 500, []byte{3, 4, 5}))
	dead(t, "P1901: Poke", f)
	f.Start()
	is(t, "P1901: Poke while it was Dead", f, laid(before, 500, []byte{3, 4, 5}))
	if got, ok := f.Read(500, 3); !ok || !bytes.Equal(got, []byte{3, 4, 5}) {
		t.Errorf("P1901: Read of what was poked while it was Dead: %x, %v", got, ok)
	}
}

func TestTurn(t *testing.T) {
	for _, sectors := range []int{0, 2} {
		b := drawn(11, 256*sectors)
		f := poked(t, b)
		alive(t, "P1902: Turn", f, 1000)
		if f.Toll() != 0 {
			t.Errorf("P1902: Turn costs %v", f.Toll())
		}
		is(t, "P1902: Turn", f, b)
		f.Plan(api.Crash{Op: 1, Cut: 256})
		if !f.Turn() || f.Dead() || f.Turn() || f.Toll() != 0 {
			t.Error("P1902: Turn in a plan")
		}
		dead(t, "P1902: Turn", f)
		is(t, "P1902: Turn in a plan", f, b)
	}
}

// cuts are numbers of bytes that a plan may tell, and many that no operation has.
func cuts() []int {
	l := []int{math.MinInt, math.MinInt + 1, math.MinInt32, -256, -2, -1, 1000, 1 << 20, math.MaxInt32, 1 << 32, 1<<32 + 3, math.MaxInt - 1, math.MaxInt}
	for n := range 520 {
		l = append(l, n)
	}
	return l
}

// limited is cut, in the range from 0 to n.
func limited(cut, n int) int {
	if cut < 0 {
		return 0
	}
	if cut > n {
		return n
	}
	return cut
}

func TestCutOfErase(t *testing.T) {
	for _, b := range [][]byte{make([]byte, 768), drawn(12, 768)} {
		for _, cut := range cuts() {
			for sector := range 3 {
				f := poked(t, b)
				f.Plan(api.Crash{Op: 0, Cut: cut})
				if f.Erase(sector) || f.Toll() != 0 {
					t.Fatalf("P1902: Erase(%d) with the cut %d: %v", sector, cut, f.Toll())
				}
				want := laid(b, 256*sector, filled(limited(cut, 256), 255))
				if !bytes.Equal(f.Image(), want) {
					t.Fatalf("P1902: Erase(%d) with the cut %d: %x", sector, cut, f.Image())
				}
				dead(t, "P1902: Erase with a cut", f)
				f.Start()
				is(t, "P1902: Erase with a cut, and Start", f, want)
				alive(t, "P1902: Erase with a cut, and Start", f, 3)
			}
		}
	}
}

func TestCutOfProgram(t *testing.T) {
	old, x := drawn(13, 768), drawn(14, 768)
	for _, at := range []int{0, 1, 250, 256, 511, 764, 768} {
		for _, n := range []int{0, 1, 2, 3, 4, 255, 256, 257, 512, 517, 518, 519, 768} {
			if n > 768-at {
				continue
			}
			for _, cut := range cuts() {
				f := poked(t, old)
				f.Plan(api.Crash{Op: 0, Cut: cut})
				if f.Program(at, x[:n]) || f.Toll() != 0 {
					t.Fatalf("P1902: Program of %d bytes at %d with the cut %d: %v", n, at, cut, f.Toll())
				}
				want := anded(old, at, x[:limited(cut, n)])
				if !bytes.Equal(f.Image(), want) {
					t.Fatalf("P1902: Program of %d bytes at %d with the cut %d: %x", n, at, cut, f.Image())
				}
				dead(t, "P1902: Program with a cut", f)
			}
		}
	}
}

func TestCutOfTurn(t *testing.T) {
	b := drawn(15, 512)
	for _, cut := range cuts() {
		f := poked(t, b)
		f.Plan(api.Crash{Op: 0, Cut: cut})
		if f.Turn() {
			t.Fatalf("P1902: Turn with the cut %d", cut)
		}
		is(t, "P1902: Turn with a cut", f, b)
		dead(t, "P1902: Turn with a cut", f)
	}
}

// operations are calls, each of which is one operation, and what it does when it is done to the end.
func operations() []func(f *Flash) bool {
	return []func(f *Flash) bool{
		func(f *Flash) bool { return f.Erase(0) },
		func(f *Flash) bool { return f.Program(3, []byte{1, 2, 3}) },
		func(f *Flash) bool { return f.Turn() },
		func(f *Flash) bool { return f.Program(512, nil) },
		func(f *Flash) bool { return f.Erase(1) },
	}
}

// noOperations does all that is no operation, and is in no plan.
func noOperations(f *Flash) {
	_, _, _, _ = f.Erase(-1), f.Erase(2), f.Erase(math.MinInt), f.Erase(math.MaxInt)
	_, _, _, _ = f.Program(-1, []byte{0}), f.Program(512, []byte{0}), f.Program(0, make([]byte, 513)), f.Program(-1, nil)
	_, _ = f.Read(0, 512)
	_, _ = f.Read(0, 513)
	_, _, _, _, _ = f.Poke(100, f.Image()[100:110]), f.Poke(-1, nil), f.Size(), f.Dead(), f.Toll()
}

// The operation that fails is the one that the plan tells, whatever the ones before it are.
func TestPlan(t *testing.T) {
	for op := range 40 {
		for first := range 5 {
			f, l := New(2), operations()
			f.Plan(api.Crash{Op: op, Cut: 1})
			for n := range op {
				noOperations(f)
				if !l[(first+n)%5](f) || f.Dead() {
					t.Fatalf("P1902: the operation %d of a plan for %d fails", n, op)
				}
			}
			noOperations(f)
			before, cost := f.Image(), f.Toll()
			if f.Dead() || l[(first+op)%5](f) || !f.Dead() || f.Toll() != cost {
				t.Fatalf("P1902: the operation %d goes well", op)
			}
			for i := range before {
				if i != 0 && i != 3 && i != 256 && f.Image()[i] != before[i] {
					t.Fatalf("P1902: the operation %d changes the byte %d", op, i)
				}
			}
			dead(t, "P1902: Plan", f)
			f.Start()
			alive(t, "P1902: Plan, and Start", f, 100)
		}
	}
}

func TestPlanForMany(t *testing.T) {
	for _, op := range []int{1000, 1 << 16, 1<<16 + 1, 300000} {
		f := New(1)
		f.Plan(api.Crash{Op: op})
		alive(t, "P1902: a plan for many", f, op)
		if f.Turn() || !f.Dead() {
			t.Errorf("P1902: the operation %d goes well", op)
		}
	}
	for _, op := range []int{1 << 20, math.MaxInt32, math.MaxInt32 + 1, 1 << 32, 1<<32 + 2, math.MaxInt - 1, math.MaxInt} {
		f := New(1)
		f.Plan(api.Crash{Op: op})
		alive(t, "P1902: a plan for more", f, 3000)
	}
}

func TestNoPlan(t *testing.T) {
	for _, op := range []int{-1, -2, -100, math.MinInt32, math.MinInt, math.MinInt + 1} {
		for _, earlier := range []int{-1, 0, 1, 5} {
			f := New(1)
			f.Plan(api.Crash{Op: earlier, Cut: 1})
			f.Plan(api.Crash{Op: op, Cut: 256})
			alive(t, "P1902: no plan", f, 500)
			if !f.Erase(0) || !f.Program(0, []byte{0}) || f.Toll() != 1+1i {
				t.Errorf("P1902: Plan with Op %d: %v", op, f.Toll())
			}
		}
	}
}

// A plan replaces an earlier one, wherever that has come to.
func TestPlanReplaces(t *testing.T) {
	for earlier := range 6 {
		for done := range earlier + 1 {
			for later := range 6 {
				f := poked(t, make([]byte, 256))
				f.Plan(api.Crash{Op: earlier, Cut: 7})
				alive(t, "P1902: the earlier plan", f, done)
				f.Plan(api.Crash{Op: later, Cut: 9})
				alive(t, "P1902: the later plan", f, later)
				if f.Erase(0) {
					t.Fatalf("P1902: the plan for %d does not replace that for %d", later, earlier)
				}
				is(t, "P1902: the later plan", f, laid(make([]byte, 256), 0, filled(9, 255)))
			}
		}
	}
}

// After an operation that failed there is no plan, and none that is made while it is Dead outlives Start.
func TestStart(t *testing.T) {
	for _, op := range []int{0, 1, 2, 3} {
		f := poked(t, drawn(16, 512))
		f.Program(0, []byte{1})
		f.Plan(api.Crash{Op: op, Cut: 4})
		before, cost := f.Image(), f.Toll()
		f.Start()
		alive(t, "P1902: Start while it isn't Dead", f, 10)
		f.Plan(api.Crash{Op: op, Cut: 4})
		alive(t, "P1902: the operations that go well", f, op)
		f.Turn()
		dead(t, "P1902: Start", f)
		f.Plan(api.Crash{Op: op, Cut: 5})
		dead(t, "P1902: a plan while it is Dead", f)
		f.Plan(api.Crash{Op: -1})
		dead(t, "P1902: no plan while it is Dead", f)
		f.Plan(api.Crash{Op: op, Cut: 6})
		f.Start()
		is(t, "P1902: Start changes no bytes", f, before)
		if f.Toll() != cost {
			t.Errorf("P1901: Toll after Start: %v, was %v", f.Toll(), cost)
		}
		alive(t, "P1902: Start", f, 10)
		f.Start()
		alive(t, "P1902: another Start", f, 10)
	}
}

func TestDead(t *testing.T) {
	f := New(2)
	for n := range 20 {
		f.Plan(api.Crash{Op: n, Cut: 2})
		for range n {
			if f.Dead() || !f.Erase(1) || f.Dead() {
				t.Fatal("P1902: Dead ahead of the operation that fails")
			}
		}
		if f.Program(0, []byte{0}) {
			t.Fatal("P1902: the operation of the plan goes well")
		}
		dead(t, "P1902: Dead", f)
		dead(t, "P1902: still Dead", f)
		f.Start()
		if f.Dead() {
			t.Fatal("P1902: Dead after Start")
		}
	}
}

// Only what goes well has a price.
func TestToll(t *testing.T) {
	f := New(3)
	erases, programs := 0, 0
	draw := rand.New(rand.NewPCG(19, 100))
	for n := range 5000 {
		if f.Program(draw.IntN(3)-2, nil) {
			programs++
		}
		if f.Erase(draw.IntN(6) - 1) {
			erases++
		}
		if f.Program(draw.IntN(900)-50, make([]byte, draw.IntN(5))) {
			programs++
		}
		if n%7 == 0 {
			f.Plan(api.Crash{Op: draw.IntN(9), Cut: draw.IntN(300)})
		}
		if n%11 == 0 {
			f.Start()
		}
		f.Turn()
		f.Poke(draw.IntN(900)-50, make([]byte, draw.IntN(5)))
		if want, _ := toll.Of(erases, programs); f.Toll() != want {
			t.Fatalf("P1901: Toll after %d erases and %d programs: %v", erases, programs, f.Toll())
		}
	}
	if erases < 1000 || programs < 1000 {
		t.Errorf("only %d erases and %d programs went well", erases, programs)
	}
}

// Each number of a toll is limited by itself; what costs so much can only be made here by saying so.
func TestTollLimited(t *testing.T) {
	const most = 1 << 40
	for _, x := range []struct{ before, erased, programmed complex128 }{
		{complex(most-2, 5), complex(most-1, 5), complex(most-2, 6)},
		{complex(5, most-2), complex(6, most-2), complex(5, most-1)},
		{complex(most-1, 5), complex(most, 5), complex(most-1, 6)},
		{complex(5, most-1), complex(6, most-1), complex(5, most)},
		{complex(most, 5), complex(most, 5), complex(most, 6)},
		{complex(5, most), complex(6, most), complex(5, most)},
		{complex(most, most), complex(most, most), complex(most, most)},
	} {
		f, g, h := New(1), New(1), New(1)
		f.cost, g.cost, h.cost = x.before, x.before, x.before
		if !f.Erase(0) || f.Toll() != x.erased {
			t.Errorf("P1901: %v and an erase: %v", x.before, f.Toll())
		}
		if !g.Program(0, []byte{0}) || g.Toll() != x.programmed {
			t.Errorf("P1901: %v and a program: %v", x.before, g.Toll())
		}
		if !h.Turn() || h.Toll() != x.before {
			t.Errorf("P1902: %v and a turn: %v", x.before, h.Toll())
		}
	}
}

func TestImage(t *testing.T) {
	for _, sectors := range []int{0, 1, 3, 128, 1024} {
		b := drawn(17, 256*sectors)
		f := poked(t, b)
		for range 3 {
			is(t, "P1901: Image", f, b)
		}
		f.Plan(api.Crash{})
		f.Turn()
		dead(t, "P1901: Image", f)
		is(t, "P1901: Image while it is Dead", f, b)
	}
}

// ruled is a flash memory as the chapter tells it.
type ruled struct {
	sectors          [][256]byte
	dead             bool
	plan             []api.Crash
	erases, programs int
}

func newRuled(sectors int) *ruled {
	r := &ruled{sectors: make([][256]byte, sectors)}
	for i := range r.sectors {
		r.sectors[i] = [256]byte(filled(256, 255))
	}
	return r
}

// cell is the byte at a place, if it exists.
func (r *ruled) cell(at int) *byte {
	if at < 0 || at >= 256*len(r.sectors) {
		return nil
	}
	return &r.sectors[at/256][at%256]
}

func (r *ruled) exist(at, n int) bool {
	if at < 0 || n < 0 {
		return false
	}
	for i := range n {
		if r.cell(at+i) == nil {
			return false
		}
	}
	return true
}

// operation does what is to be done with each of n bytes, or with those ahead of the cut.
func (r *ruled) operation(n int, do func(i int)) bool {
	fails := len(r.plan) > 0 && r.plan[0].Op == 0
	for i := range n {
		if !fails || i < r.plan[0].Cut {
			do(i)
		}
	}
	if fails {
		r.plan, r.dead = nil, true
	}
	for i := range r.plan {
		r.plan[i].Op--
	}
	return !fails
}

func (r *ruled) erase(sector int) bool {
	if sector < 0 || sector >= len(r.sectors) || r.dead || !r.operation(256, func(i int) { r.sectors[sector][i] = 255 }) {
		return false
	}
	r.erases++
	return true
}

func (r *ruled) program(at int, b []byte) bool {
	if !r.exist(at, len(b)) || r.dead || !r.operation(len(b), func(i int) { *r.cell(at + i) &= b[i] }) {
		return false
	}
	r.programs++
	return true
}

func (r *ruled) poke(at int, b []byte) bool {
	if !r.exist(at, len(b)) {
		return false
	}
	for i, x := range b {
		*r.cell(at + i) = x
	}
	return true
}

func (r *ruled) planned(c api.Crash) {
	r.plan = nil
	if c.Op >= 0 {
		r.plan = []api.Crash{c}
	}
}

func (r *ruled) image() []byte {
	var b []byte
	for _, s := range r.sectors {
		b = append(b, s[:]...)
	}
	return b
}

// step calls f and r alike, and tells whether they answer alike.
func step(f *Flash, r *ruled, draw *rand.Rand) bool {
	size := 256 * len(r.sectors)
	at, n := draw.IntN(size+8)-4, draw.IntN(9)
	if draw.IntN(4) == 0 {
		n = draw.IntN(size + 8)
	}
	x := drawn(draw.Uint64(), n)
	switch draw.IntN(12) {
	case 0, 1:
		sector := draw.IntN(len(r.sectors)+2) - 1
		return f.Erase(sector) == r.erase(sector)
	case 2, 3, 4:
		return f.Program(at, x) == r.program(at, x)
	case 5, 6:
		return f.Poke(at, x) == r.poke(at, x)
	case 7:
		return f.Turn() == (!r.dead && r.operation(0, nil))
	case 8:
		c := api.Crash{Op: draw.IntN(7) - 1, Cut: draw.IntN(300) - 20}
		f.Plan(c)
		r.planned(c)
		return true
	case 9:
		f.Start()
		r.dead, r.plan = false, nil
		return true
	default:
		n -= draw.IntN(3)
		b, ok := f.Read(at, n)
		if !r.exist(at, n) || r.dead {
			return b == nil && !ok
		}
		return ok && (n == 0 && len(b) == 0 || bytes.Equal(b, r.image()[at:at+n]))
	}
}

// Whatever is called, in any order, the memory is the one that the chapter tells.
func TestOfAnyCalls(t *testing.T) {
	for seed := range uint64(60) {
		draw := rand.New(rand.NewPCG(1919, seed))
		sectors := int(seed % 6)
		f, r := New(sectors), newRuled(sectors)
		for n := range 1500 {
			if !step(f, r, draw) {
				t.Fatalf("P1901, P1902: seed %d, call %d: another answer", seed, n)
			}
			if f.Dead() != r.dead || f.Size() != sectors || f.Toll() != complex(float64(r.erases), float64(r.programs)) {
				t.Fatalf("P1901, P1902: seed %d, call %d: %v, %d, %v", seed, n, f.Dead(), f.Size(), f.Toll())
			}
			if !bytes.Equal(f.Image(), r.image()) {
				t.Fatalf("P1901, P1902: seed %d, call %d: %x, want %x", seed, n, f.Image(), r.image())
			}
		}
	}
}

// What is given stays as it is, to the end of its capacity, and the memory hangs on it no more.
func TestArguments(t *testing.T) {
	for _, op := range []int{-1, 0} {
		for _, n := range []int{0, 1, 5, 256, 300, 512} {
			room := drawn(18, 600)
			before := slices.Clone(room)
			f, g := New(2), New(2)
			f.Plan(api.Crash{Op: op, Cut: 3})
			f.Program(0, room[:n])
			g.Poke(0, room[:n])
			g.Poke(1, room[:512])
			g.Program(1, room[:512])
			if !bytes.Equal(room, before) {
				t.Fatalf("P1903: what was given is turned into %x", room)
			}
			programmed, written := f.Image(), g.Image()
			scribble(room)
			is(t, "P1903: Program keeps what was given", f, programmed)
			is(t, "P1903: Poke keeps what was given", g, written)
			f.Start()
			f.Erase(0)
			g.Erase(0)
			f.Poke(256, make([]byte, 256))
			scribble(room)
			if !bytes.Equal(room, before) {
				t.Fatalf("P1903: what was given hangs on the memory: %x", room)
			}
		}
	}
}

// scribble writes all over b, to the end of its capacity.
func scribble(b []byte) {
	b = b[:cap(b)]
	for i := range b {
		b[i] ^= 255
	}
}

// What is answered is nobody else's.
func TestAnswersAreNew(t *testing.T) {
	b := drawn(19, 768)
	f := poked(t, b)
	for _, x := range []struct{ at, n int }{{0, 768}, {0, 1}, {0, 0}, {100, 0}, {768, 0}, {255, 2}, {256, 256}, {767, 1}, {5, 700}} {
		for range 3 {
			one, _ := f.Read(x.at, x.n)
			two, _ := f.Read(x.at, x.n)
			image, other := f.Image(), f.Image()
			scribble(one)
			scribble(image)
			if !bytes.Equal(two, b[x.at:x.at+x.n]) || !bytes.Equal(other, b) {
				t.Fatalf("P1903: answers hang on each other: %x, %x", two, other)
			}
			is(t, "P1903: the memory hangs on what it answered", f, b)
			scribble(two)
			scribble(other)
			is(t, "P1903: the memory hangs on what it answered", f, b)
		}
	}
	read, _ := f.Read(0, 768)
	image := f.Image()
	f.Erase(0)
	f.Program(256, make([]byte, 256))
	f.Poke(512, make([]byte, 256))
	if !bytes.Equal(read, b) || !bytes.Equal(image, b) {
		t.Errorf("P1903: what was answered hangs on the memory: %x, %x", read, image)
	}
}

// What happens to one memory happens to no other, made before or after it.
func TestTwoAreIndependent(t *testing.T) {
	before, f := New(2), New(2)
	before.Plan(api.Crash{Op: 4, Cut: 2})
	f.Poke(0, drawn(20, 512))
	f.Erase(1)
	f.Program(0, make([]byte, 100))
	f.Plan(api.Crash{})
	f.Turn()
	after := New(2)
	dead(t, "P1903: one", f)
	for _, g := range []*Flash{before, after} {
		is(t, "P1903: another", g, filled(512, 255))
		if g.Toll() != 0 || g.Size() != 2 {
			t.Errorf("P1903: another: %v, %d", g.Toll(), g.Size())
		}
		alive(t, "P1903: another", g, 4)
	}
	alive(t, "P1903: one without a plan", after, 10)
	if before.Turn() {
		t.Error("P1903: the plan of one is lost by another")
	}
	after.Start()
	dead(t, "P1903: one", f)
	dead(t, "P1903: another", before)
	alive(t, "P1903: one without a plan", after, 10)
}

// Memories that are used at the same time are independent too.
func TestBesideEachOther(t *testing.T) {
	var wait sync.WaitGroup
	for n := range uint64(32) {
		wait.Go(func() {
			draw := rand.New(rand.NewPCG(191919, n))
			f, r := New(2), newRuled(2)
			for call := range 300 {
				if !step(f, r, draw) || f.Dead() != r.dead || !bytes.Equal(f.Image(), r.image()) {
					t.Errorf("P1903: memory %d, call %d: another answer", n, call)
					return
				}
			}
		})
	}
	wait.Wait()
}

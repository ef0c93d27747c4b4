package merkle

import (
	"bytes"
	"crypto/sha256"
	"encoding/hex"
	"math"
	"math/rand/v2"
	"slices"
	"strconv"
	"sync"
	"testing"

	"portcullis/api"
)

// drawn are n bytes, always the same ones for the same seed.
func drawn(seed uint64, n int) []byte {
	b := make([]byte, n)
	draw := rand.New(rand.NewPCG(15, seed))
	for i := range b {
		b[i] = byte(draw.Uint32())
	}
	return b
}

func numDrawn(seed uint64) api.Num { return api.Num(drawn(seed, 32)) }

// listDrawn are n elements of many lengths, all of them different but for a few empty ones.
func listDrawn(seed uint64, n int) [][]byte {
	l := make([][]byte, n)
	for i := range l {
		l[i] = drawn(seed<<32+uint64(i), i*7%90)
	}
	return l
}

// pathDrawn are n roots of which nobody knows a tree.
func pathDrawn(seed uint64, n int) []api.Num {
	p := make([]api.Num, n)
	for i := range p {
		p[i] = numDrawn(seed<<32 + uint64(i))
	}
	return p
}

func unhex(t *testing.T, text string) []byte {
	t.Helper()
	b, err := hex.DecodeString(text)
	if err != nil {
		t.Fatal(err)
	}
	return b
}

func turned(a api.Num, bit int) api.Num {
	a[bit/8] ^= 1 << (bit % 8)
	return a
}

// digest is the library's SHA-256 of all these bytes.
func digest(l ...[]byte) api.Num { return sha256.Sum256(slices.Concat(l...)) }

// cutAt is the greatest power of 2 that is less than n, as the chapter tells it.
func cutAt(n int) int {
	k := 1
	for 2*k < n {
		k *= 2
	}
	return k
}

// ruledRoot is what Root answers, as the chapter tells it.
func ruledRoot(l [][]byte) api.Num {
	if len(l) == 0 {
		return digest()
	}
	if len(l) == 1 {
		return digest([]byte{0}, l[0])
	}
	k := cutAt(len(l))
	return ruledPair(ruledRoot(l[:k]), ruledRoot(l[k:]))
}

func ruledPair(left, right api.Num) api.Num { return digest([]byte{1}, left[:], right[:]) }

// ruledPath is what Path answers, from the root to the element and then turned about.
func ruledPath(l [][]byte, i int) []api.Num {
	if len(l) == 1 {
		return nil
	}
	k := cutAt(len(l))
	if i < k {
		return append(ruledPath(l[:k], i), ruledRoot(l[k:]))
	}
	return append(ruledPath(l[k:], i-k), ruledRoot(l[:k]))
}

// ruledEnd is the root to which the path p leads from the element b, or false if p hasn't the length of such a path.
func ruledEnd(n, i int, b []byte, p []api.Num) (api.Num, bool) {
	if n == 1 || len(p) == 0 {
		return digest([]byte{0}, b), n == 1 && len(p) == 0
	}
	k, last := cutAt(n), p[len(p)-1]
	if i < k {
		left, ok := ruledEnd(k, i, b, p[:len(p)-1])
		return ruledPair(left, last), ok
	}
	right, ok := ruledEnd(n-k, i-k, b, p[:len(p)-1])
	return ruledPair(last, right), ok
}

// roots checks that Root answers want.
func roots(t *testing.T, what string, l [][]byte, want api.Num) {
	t.Helper()
	if got := Root(l); got != want {
		t.Errorf("P1501: %s: Root of %d elements: %x, want %x", what, len(l), got, want)
	}
}

// leads checks that Path answers want.
func leads(t *testing.T, what string, l [][]byte, i int, want []api.Num) {
	t.Helper()
	if got, ok := Path(l, i); !ok || !slices.Equal(got, want) {
		t.Errorf("P1501: %s: Path of %d of %d: %x, %v, want %x", what, i, len(l), got, ok, want)
	}
}

// checks checks that Check answers want.
func checks(t *testing.T, what string, root api.Num, n, i int, b []byte, p []api.Num, want bool) {
	t.Helper()
	if got := Check(root, n, i, b, p); got != want {
		t.Errorf("P1501: %s: Check(%x, %d, %d, %x, %d roots): %v", what, root, n, i, b, len(p), got)
	}
}

// known are the elements of the examples of Certificate Transparency (RFC 6962), which has the same trees.
func known(t *testing.T) [][]byte {
	var l [][]byte
	for _, text := range []string{
		"", "00", "10", "2021", "3031", "40414243", "5051525354555657", "606162636465666768696a6b6c6d6e6f",
	} {
		l = append(l, unhex(t, text))
	}
	return l
}

func TestRootByHand(t *testing.T) {
	l := known(t)
	for n, text := range []string{
		"e3b0c44298fc1c149afbf4c8996fb92427ae41e4649b934ca495991b7852b855",
		"6e340b9cffb37a989ca544e6bb780a2c78901d3fb33738768511a30617afa01d",
		"fac54203e7cc696cf0dfcb42c92a1d9dbaf70ad9e621f4bd8d98662f00e3c125",
		"aeb6bcfe274b70a14fb067a5e5578264db0fa9b51af5e0ba159158f329e06e77",
		"d37ee418976dd95753c1c73862b9398fa2a2cf9b4ff0fdfe8b30cd95209614b7",
		"4e3bbb1f7b478dcfe71fb631631519a3bca12c9aefca1612bfce4c13a86264d4",
		"76e67dadbcdf1e10e1b74ddc608abd2f98dfb16fbce75277b5232a127f2087ef",
		"ddb89be403809e325750d3d263cd78929c2942b7942a34b77e122c9594a74c8c",
		"5dc9da79a70659a9ad559cb701ded9a2ab9d823aad2f4960cfe370eff4604328",
	} {
		want := api.Num(unhex(t, text))
		roots(t, "an example", l[:n], want)
		if rule := ruledRoot(l[:n]); rule != want {
			t.Errorf("%d elements: the rule of this test: %x", n, rule)
		}
	}
}

func TestPathByHand(t *testing.T) {
	l := known(t)
	for _, x := range []struct {
		n, i int
		want []string
	}{
		{1, 0, nil},
		{8, 0, []string{
			"96a296d224f285c67bee93c30f8a309157f0daa35dc5b87e410b78630a09cfc7",
			"5f083f0a1a33ca076a95279832580db3e0ef4584bdff1f54c8a360f50de3031e",
			"6b47aaf29ee3c2af9af889bc1fb9254dabd31177f16232dd6aab035ca39bf6e4",
		}},
		{8, 5, []string{
			"bc1a0643b12e4d2d7c77918f44e0f4f79a838b6cf9ec5b5c283e1f4d88599e6b",
			"ca854ea128ed050b41b35ffc1b87b8eb2bde461e9e3b5596ece6b9d5975a0ae0",
			"d37ee418976dd95753c1c73862b9398fa2a2cf9b4ff0fdfe8b30cd95209614b7",
		}},
		{3, 2, []string{
			"fac54203e7cc696cf0dfcb42c92a1d9dbaf70ad9e621f4bd8d98662f00e3c125",
		}},
		{5, 1, []string{
			"6e340b9cffb37a989ca544e6bb780a2c78901d3fb33738768511a30617afa01d",
			"5f083f0a1a33ca076a95279832580db3e0ef4584bdff1f54c8a360f50de3031e",
			"bc1a0643b12e4d2d7c77918f44e0f4f79a838b6cf9ec5b5c283e1f4d88599e6b",
		}},
	} {
		var want []api.Num
		for _, text := range x.want {
			want = append(want, api.Num(unhex(t, text)))
		}
		leads(t, "an example", l[:x.n], x.i, want)
		checks(t, "an example", Root(l[:x.n]), x.n, x.i, l[x.i], want, true)
	}
}

// The examples of the chapter.
func TestOfTheChapter(t *testing.T) {
	roots(t, "no list", nil, digest())
	roots(t, "an empty list", [][]byte{}, digest())
	a, b := []byte("the one"), []byte("the other")
	leads(t, "one of two", [][]byte{a, b}, 0, []api.Num{Root([][]byte{b})})
	leads(t, "the other of two", [][]byte{a, b}, 1, []api.Num{Root([][]byte{a})})
	leads(t, "one of one", [][]byte{a}, 0, nil)
	l := [][]byte{a, b}
	checks(t, "the index -1", Root(l), 2, -1, a, []api.Num{Root(l[1:])}, false)
	checks(t, "the index 0", Root(l), 2, 0, a, []api.Num{Root(l[1:])}, true)
}

// lengths are those up to 70, and those next to greater powers of 2.
func lengths() []int {
	var l []int
	for n := range 71 {
		l = append(l, n)
	}
	for k := 128; k <= 1024; k *= 2 {
		l = append(l, k-1, k, k+1, k+2, k+k/2, k+k/2+1)
	}
	return l
}

func TestRootOfAllLengths(t *testing.T) {
	for _, n := range lengths() {
		l := listDrawn(uint64(n), n)
		roots(t, "drawn elements", l, ruledRoot(l))
	}
}

// few are some indices below n, in which both ends are, and those next to each cut.
func few(n int) []int {
	if n <= 70 {
		return slices.Collect(func(yield func(int) bool) {
			for i := range n {
				if !yield(i) {
					return
				}
			}
		})
	}
	l := []int{0, 1, n / 3, n / 2, n - 2, n - 1}
	for at := 0; n-at > 1; {
		at += cutAt(n - at)
		l = append(l, at-1, at)
	}
	slices.Sort(l)
	return slices.Compact(l)
}

func TestPathOfAllLengths(t *testing.T) {
	for _, n := range lengths() {
		l := listDrawn(uint64(100+n), n)
		root := Root(l)
		for _, i := range few(n) {
			p := ruledPath(l, i)
			leads(t, "drawn elements", l, i, p)
			checks(t, "its path", root, n, i, l[i], p, true)
		}
	}
}

func TestPathOfNone(t *testing.T) {
	for n := range 40 {
		l := listDrawn(1, n)
		for _, i := range []int{-1, -2, -n, -n - 1, n, n + 1, 2 * n, 64, 1 << 20, math.MinInt, math.MinInt + 1, math.MaxInt} {
			if i >= 0 && i < n {
				continue
			}
			if p, ok := Path(l, i); ok || p != nil {
				t.Errorf("P1501: Path of %d of %d: %x, %v", i, n, p, ok)
			}
		}
	}
}

// Elements count as they are: empty ones too, and those that are equal, each for itself.
func TestOfElementsOfAllKinds(t *testing.T) {
	zero, one := []byte{0}, []byte{1}
	a, b := Root([][]byte{zero}), Root([][]byte{one})
	joint := slices.Concat(a[:], b[:])
	for _, l := range [][][]byte{
		{nil}, {{}}, {nil, nil}, {nil, {}, nil}, {{}, zero}, {zero, {}}, {zero, zero, zero, zero}, {zero, one, zero, one, zero},
		{joint}, {append(one, joint...)}, {append(zero, joint...)}, {a[:], b[:]}, {joint, joint, one}, {drawn(2, 100000), zero},
		{drawn(3, 54), drawn(3, 55), drawn(3, 56), drawn(3, 62), drawn(3, 63), drawn(3, 64), drawn(3, 119), drawn(3, 127)},
	} {
		root := ruledRoot(l)
		roots(t, "elements of a kind", l, root)
		for i, b := range l {
			leads(t, "elements of a kind", l, i, ruledPath(l, i))
			checks(t, "elements of a kind", root, len(l), i, b, ruledPath(l, i), true)
		}
	}
	if Root([][]byte{joint}) == Root([][]byte{zero, one}) {
		t.Error("P1501: an element passes for two")
	}
}

// A list has the root of no other one.
func TestRootOfOtherLists(t *testing.T) {
	l := listDrawn(4, 21)[1:]
	seen := map[api.Num]string{}
	add := func(what string, l [][]byte) {
		root := Root(l)
		if other, ok := seen[root]; ok {
			t.Errorf("P1501: the same root: %s, and %s", other, what)
		}
		seen[root] = what
	}
	for n := range len(l) + 1 {
		add("the first "+strconv.Itoa(n), l[:n])
	}
	for i := range l {
		other := slices.Clone(l)
		other[i] = append(slices.Clone(other[i]), 0)
		add("a byte 0 more in "+strconv.Itoa(i), other)
		other[i] = drawn(5, 32)
		add("another element "+strconv.Itoa(i), other)
	}
	for i := range len(l) - 1 {
		other := slices.Clone(l)
		other[i], other[i+1] = other[i+1], other[i]
		add("swapped at "+strconv.Itoa(i), other)
		add("without "+strconv.Itoa(i), slices.Delete(slices.Clone(l), i, i+1))
		other = slices.Clone(l[:i])
		add("joined at "+strconv.Itoa(i), append(append(other, slices.Concat(l[i], l[i+1])), l[i+2:]...))
	}
}

// Each path is held against each place of each list.
func TestCheckAtOtherPlaces(t *testing.T) {
	const most = 18
	l := listDrawn(6, most)
	for n := 1; n <= most; n++ {
		root := Root(l[:n])
		for i := range n {
			p := ruledPath(l[:n], i)
			for atN := range most + 4 {
				for atI := -3; atI < atN+4; atI++ {
					want := false
					if atI >= 0 && atI < atN {
						end, ok := ruledEnd(atN, atI, l[i], p)
						want = ok && end == root
					}
					checks(t, "the path of "+strconv.Itoa(i)+" of "+strconv.Itoa(n), root, atN, atI, l[i], p, want)
				}
			}
		}
	}
}

func TestCheckOfNoPlace(t *testing.T) {
	l := listDrawn(7, 9)
	root := Root(l)
	for i := range l {
		p := ruledPath(l, i)
		for _, at := range []int{-1, -9, 9, 10, 16, i - 9, i + 9, i + 16, i - 16, i + 1<<32, i | math.MinInt, math.MaxInt, math.MinInt} {
			checks(t, "no such index", root, 9, at, l[i], p, false)
		}
		for _, n := range []int{0, -1, -9, i, 9 | math.MinInt, math.MinInt, math.MaxInt, 1<<20 + 1, 1 << 40, 9 + 1<<32, 9 + 1<<21} {
			checks(t, "no such length", root, n, i, l[i], p, false)
		}
	}
	for _, n := range []int{0, -1, math.MinInt} {
		for _, root := range []api.Num{{}, digest(), digest([]byte{0})} {
			for _, i := range []int{0, -1, n} {
				checks(t, "in no list", root, n, i, nil, nil, false)
			}
		}
	}
}

func TestCheckOfEachBit(t *testing.T) {
	for _, n := range []int{1, 2, 3, 7, 8, 13} {
		l := listDrawn(8, n)
		root := Root(l)
		for i, b := range l {
			p := ruledPath(l, i)
			for bit := range 256 {
				checks(t, "a bit of the root turned", turned(root, bit), n, i, b, p, false)
				for k := range p {
					other := slices.Clone(p)
					other[k] = turned(other[k], bit)
					checks(t, "a bit of the path turned", root, n, i, b, other, false)
				}
			}
			for bit := range 8 * len(b) {
				other := slices.Clone(b)
				other[bit/8] ^= 1 << (bit % 8)
				checks(t, "a bit of the element turned", root, n, i, other, p, false)
			}
			checks(t, "more of the element", root, n, i, append(slices.Clone(b), 0), p, false)
			if len(b) > 0 {
				checks(t, "less of the element", root, n, i, b[1:], p, false)
				checks(t, "less of the element", root, n, i, b[:len(b)-1], p, false)
			}
			checks(t, "nothing turned", root, n, i, b, p, true)
		}
	}
}

// A path of another length is refused, even where a part of it leads to the root.
func TestCheckOfOtherLengths(t *testing.T) {
	for n := 1; n < 40; n++ {
		l := listDrawn(9, n)
		root := Root(l)
		for i, b := range l {
			p := ruledPath(l, i)
			for k := range p {
				checks(t, "less of the path", root, n, i, b, p[:k], false)
				checks(t, "less of the path", root, n, i, b, p[k+1:], false)
				checks(t, "one root of the path left out", root, n, i, b, slices.Delete(slices.Clone(p), k, k+1), false)
			}
			for _, more := range []api.Num{{}, root, Root(l[i : i+1]), numDrawn(10)} {
				for k := range len(p) + 1 {
					checks(t, "one root more", root, n, i, b, slices.Insert(slices.Clone(p), k, more), false)
				}
			}
			checks(t, "many roots more", root, n, i, b, append(slices.Clone(p), make([]api.Num, 100)...), false)
			end, _ := ruledEnd(n, i, b, p)
			checks(t, "where it ends", end, n, i, b, p, true)
		}
	}
	checks(t, "two elements and no path", Root([][]byte{{7}}), 2, 0, []byte{7}, nil, false)
	checks(t, "two elements and no path", api.Num{}, 2, 1, nil, nil, false)
}

// The order of a path counts, and on which side each of its roots stands.
func TestCheckOfTurnedPaths(t *testing.T) {
	for n := 2; n < 40; n++ {
		l := listDrawn(11, n)
		root := Root(l)
		for i, b := range l {
			p := ruledPath(l, i)
			for k := range len(p) - 1 {
				other := slices.Clone(p)
				other[k], other[k+1] = other[k+1], other[k]
				checks(t, "two roots swapped", root, n, i, b, other, false)
			}
			if len(p) > 1 {
				other := slices.Clone(p)
				slices.Reverse(other)
				checks(t, "from the root to the element", root, n, i, b, other, false)
			}
			own := Root(l[i : i+1])
			checks(t, "the root in the element's place", root, n, i, own[:], p, false)
		}
	}
}

// Trees within the tree pass for no element, and the tree for no tree within another.
func TestCheckOfInnerTrees(t *testing.T) {
	l := listDrawn(12, 8)
	root := Root(l)
	for i := range 4 {
		left, right := Root(l[2*i:2*i+1]), Root(l[2*i+1:2*i+2])
		joint := slices.Concat(left[:], right[:])
		p := ruledPath(l, 2*i)[1:]
		for _, b := range [][]byte{joint, append([]byte{1}, joint...), append([]byte{0}, joint...), left[:], nil} {
			checks(t, "two elements in the place of one", root, 4, i, b, p, false)
			checks(t, "two elements in the place of one", root, 8, 2*i, b, p, false)
		}
	}
}

// Check goes to no root that it isn't told: the paths of great lists need no lists.
func TestCheckOfGreatLengths(t *testing.T) {
	const most = 1 << 20
	for _, n := range []int{most, most - 1, most - 2, most/2 + 1, most / 2, most/2 - 1, 3 * most / 4, 699051, 1<<16 + 1, 1000003 % most} {
		for _, i := range few(n) {
			b := drawn(uint64(i), 20)
			accepted := 0
			for length := range 26 {
				p := pathDrawn(uint64(n+i), length)
				end, ok := ruledEnd(n, i, b, p)
				checks(t, "drawn roots", end, n, i, b, p, ok)
				checks(t, "drawn roots to another root", numDrawn(13), n, i, b, p, false)
				if ok {
					accepted++
				}
			}
			if accepted != 1 {
				t.Errorf("the rule of this test: %d lengths for %d of %d", accepted, i, n)
			}
		}
	}
}

func TestCheckBeyondTheGreatestLength(t *testing.T) {
	const most = 1 << 20
	for _, n := range []int{most + 1, most + 2, 2*most - 1, 2 * most, 2*most + 1, 1 << 30, 1<<31 - 1} {
		for _, i := range few(n) {
			b := drawn(uint64(i), 20)
			for length := range 40 {
				p := pathDrawn(uint64(n+i), length)
				end, _ := ruledEnd(n, i, b, p)
				checks(t, "too many elements", end, n, i, b, p, false)
			}
		}
	}
	checks(t, "a long path", api.Num{}, most, 5, nil, make([]api.Num, 1<<20), false)
}

// Path knows no greatest length, only Check does.
func TestOfTheGreatestLength(t *testing.T) {
	const most = 1 << 20
	l := make([][]byte, most+1)
	for i := range l {
		l[i] = []byte{byte(i), byte(i >> 8), byte(i >> 16)}
	}
	left, right := ruledRoot(l[:most]), ruledRoot(l[most:])
	root := ruledPair(left, right)
	roots(t, "2^20 + 1 elements", l, root)
	leads(t, "the last of 2^20 + 1", l, most, []api.Num{left})
	checks(t, "the last of 2^20 + 1", root, most+1, most, l[most], []api.Num{left}, false)
	const i = 699050
	p, ok := Path(l, i)
	if !ok || len(p) != 21 || p[20] != right {
		t.Fatalf("P1501: Path of %d of 2^20 + 1: %x, %v", i, p, ok)
	}
	checks(t, "2^20 + 1 elements", root, most+1, i, l[i], p, false)
	checks(t, "2^20 elements", left, most, i, l[i], p[:20], true)
}

// state is a copy of a list, with what stands in the room behind it and behind its elements.
func state(l [][]byte) [][]byte {
	var copies [][]byte
	for _, b := range l[:cap(l)] {
		copies = append(copies, slices.Clone(b[:cap(b)]))
	}
	return copies
}

func TestArgumentsAreLeft(t *testing.T) {
	for n := range 20 {
		room := listDrawn(14, n+5)
		for i := range room {
			room[i] = append(room[i], drawn(15, 10)...)[:len(room[i])]
		}
		kept := state(room)
		l := room[:n]
		root := Root(l)
		for i := range n {
			p, _ := Path(l, i)
			p = append(p, numDrawn(16))[:len(p)]
			keptPath := slices.Clone(p[:cap(p)])
			keptRoot := root
			Check(root, n, i, l[i], p)
			Check(root, n, n-1-i, l[i], p)
			if !slices.Equal(p[:cap(p)], keptPath) || root != keptRoot {
				t.Errorf("P1502 (P102): a path or a root was changed: %x", p)
			}
		}
		if !slices.EqualFunc(state(room), kept, bytes.Equal) {
			t.Errorf("P1502 (P102): a list of %d was changed", n)
		}
	}
}

func TestAnswersAreNew(t *testing.T) {
	l := listDrawn(17, 11)
	for i := range l {
		want := ruledPath(l, i)
		first, _ := Path(l, i)
		second, _ := Path(l, i)
		clear(first[:cap(first)])
		if !slices.Equal(second, want) {
			t.Errorf("P1502 (P102): an answer is shared: %x", second)
		}
		for _, num := range second[len(second):cap(second)] {
			if num != (api.Num{}) {
				t.Errorf("P1502 (P102): behind an answer stands %x", num)
			}
		}
	}
	root := Root(l)
	p, _ := Path(l, 3)
	for i := range l {
		if i != 3 {
			clear(l[i])
		}
	}
	checks(t, "after the list is cleared", root, 11, 3, l[3], p, true)
	roots(t, "the cleared list", l, ruledRoot(l))
}

// answers are what all the functions tell of one element.
type answers struct {
	root, first, last   api.Num
	length              int
	there, right, wrong bool
}

func all(n, i int) answers {
	l := listDrawn(18, n)
	r := answers{root: Root(l)}
	p, ok := Path(l, i)
	r.length, r.there = len(p), ok
	if len(p) > 0 {
		r.first, r.last = p[0], p[len(p)-1]
	}
	r.right = Check(r.root, n, i, l[i], p)
	r.wrong = Check(r.root, n+1, i+1, l[i], p)
	return r
}

func TestAnswersHangOnTheArgumentsOnly(t *testing.T) {
	const n = 40
	var first, again [n]answers
	for i := range first {
		first[i] = all(n, i)
	}
	var wait sync.WaitGroup
	for i := range again {
		wait.Go(func() { again[n-1-i] = all(n, n-1-i) })
	}
	wait.Wait()
	for i := range first {
		if first[i] != again[i] {
			t.Errorf("P1502 (P102): %d: %v, and then %v", i, first[i], again[i])
		}
		if !first[i].there || !first[i].right || first[i].wrong {
			t.Errorf("P1501: %d of %d: %v", i, n, first[i])
		}
	}
}

package pieces

import (
	"bytes"
	"slices"
	"testing"
)

func counted(n int) []byte {
	b := make([]byte, n)
	for i := range b {
		b[i] = byte(i + 1)
	}
	return b
}

// cuts are lists of byte strings in which the same message stands.
func cuts(b []byte) [][][]byte {
	l := [][][]byte{{b}, {nil, b, {}}}
	for i := range len(b) + 1 {
		l = append(l, [][]byte{b[:i], b[i:]}, [][]byte{nil, b[:i/2], {}, nil, b[i/2 : i], b[i:], {}})
	}
	for each := 1; each < len(b); each++ {
		l = append(l, slices.Collect(slices.Chunk(b, each)))
	}
	return l
}

func TestFillTakesAllInOrder(t *testing.T) {
	for n := range 40 {
		b := counted(n)
		for _, cut := range cuts(b) {
			for _, size := range []int{1, 2, 3, 7, 16, 39, 100} {
				m := Of(cut)
				block := make([]byte, size)
				var got []byte
				filled := m.Fill(block)
				for filled == size {
					got = append(got, block...)
					filled = m.Fill(block)
				}
				if filled != n%size {
					t.Errorf("%d bytes in blocks of %d: the last has %d", n, size, filled)
				}
				got = append(got, block[:filled]...)
				if !bytes.Equal(got, b) {
					t.Errorf("%d bytes in %d pieces, in blocks of %d: %v", n, len(cut), size, got)
				}
				if more := m.Fill(block); more != 0 {
					t.Errorf("%d bytes in blocks of %d: %d more behind the end", n, size, more)
				}
			}
		}
	}
}

func TestFillOfNothing(t *testing.T) {
	for i, l := range [][][]byte{nil, {}, {nil}, {{}, nil, {}}} {
		m := Of(l)
		block := []byte{7, 8}
		if n := m.Fill(block); n != 0 || !bytes.Equal(block, []byte{7, 8}) {
			t.Errorf("%d: %d bytes, %v", i, n, block)
		}
	}
	m := Of([][]byte{{1, 2}})
	if n := m.Fill(nil); n != 0 {
		t.Errorf("no room: %d bytes", n)
	}
	if block := []byte{0, 0, 9}; m.Fill(block) != 2 || !bytes.Equal(block, []byte{1, 2, 9}) {
		t.Errorf("more room than bytes: %v", block)
	}
}

func TestFillLeavesTheList(t *testing.T) {
	room := counted(30)
	list := [][]byte{room[:3], nil, room[3:20]}
	keptRoom, kept := slices.Clone(room), slices.Clone(list)
	m := Of(list)
	block := make([]byte, 8)
	for m.Fill(block) > 0 {
		clear(block)
	}
	if !bytes.Equal(room, keptRoom) || !slices.EqualFunc(list, kept, bytes.Equal) {
		t.Error("the list was changed")
	}
}

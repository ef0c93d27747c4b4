// Package pieces reads a message that stands in several byte strings, as if it stood in one. It is no layer: those that
// take a message in blocks share it.
package pieces

// Message is what is still to be read of a message.
type Message struct {
	open   []byte
	behind [][]byte
}

// Of is the whole message that stands in b.
func Of(b [][]byte) Message { return Message{behind: b} }

// Fill moves the next bytes of the message to the front of block and answers how many: fewer than block has only where
// the message ends.
func (m *Message) Fill(block []byte) int {
	filled := m.move(block)
	for filled < len(block) && len(m.behind) > 0 {
		m.open, m.behind = m.behind[0], m.behind[1:]
		filled += m.move(block[filled:])
	}
	return filled
}

// move is Fill, up to the end of one byte string.
func (m *Message) move(block []byte) int {
	n := copy(block, m.open)
	m.open = m.open[n:]
	return n
}

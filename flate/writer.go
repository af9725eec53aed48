package flate

// mark is a symbol, and the bits behind it that tell more.
type mark struct {
	symbol int
	more   int
	width  int
}

// writer lays bits one behind the other, as a reader hands them out.
type writer struct {
	data []byte
	used int
}

func (w *writer) bit(bit int) {
	place := w.used / bitsOfByte
	if place == len(w.data) {
		w.data = append(w.data, 0)
	}
	w.data[place] |= byte(bit) << (w.used % bitsOfByte)
	w.used++
}

// number writes a number with its lowest bit first.
func (w *writer) number(n, width int) {
	for i := range width {
		w.bit(n >> i & 1)
	}
}

// word writes a code, which has its highest bit first.
func (w *writer) word(n, length int) {
	for i := range length {
		w.bit(n >> (length - 1 - i) & 1)
	}
}

func (w *writer) mark(c code, m mark) {
	word, length := c.word(m.symbol)
	w.word(word, length)
	w.number(m.more, m.width)
}

func (w *writer) piece(c codes, p piece) {
	w.mark(c.symbols, p.mark())
	if p.isCopy() {
		w.mark(c.distances, distanceMark(p.distance))
	}
}

func (w *writer) skipToByte() {
	w.used = len(w.data) * bitsOfByte
}

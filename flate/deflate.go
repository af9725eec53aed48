package flate

// MaxLevel is the level of packing that tries most.
const MaxLevel = 2

// storedHead is how many bytes a stored block takes up beside its own, if it is the first one.
const storedHead = 5

// packer tries ways of packing a text as one block, and keeps the shortest stream.
type packer struct {
	text string
	best string
	// room is what a stream must stay below to be of use: at the beginning a stored block just does.
	room int
}

// Deflate writes a text of at most 32768 bytes, so that each distance and each stored length can be told, as a stream. Each level tries more than the one below it does.
func Deflate(text string, level int) string {
	p := &packer{text: text, room: len(text) + storedHead + 1}
	switch level {
	case MaxLevel:
		// Where few different bytes stand, short copies may need more bits than these bytes.
		p.tryDynamic(noCopy)
		p.tryDynamic(leastCopy)
		fallthrough
	case 1:
		p.tryStatic()
		fallthrough
	default:
		p.tryStored()
	}
	return p.best
}

func beginBlock(kind int) *writer {
	out := &writer{}
	out.bit(1)
	out.number(kind, 2)
	return out
}

func (p *packer) tryStored() {
	out := beginBlock(stored)
	out.skipToByte()
	out.number(len(p.text), 16)
	out.number(1<<16-1-len(p.text), 16)
	for i := range len(p.text) {
		out.number(int(p.text[i]), bitsOfByte)
	}
	p.keep(out)
}

func (p *packer) tryStatic() {
	p.finish(beginBlock(static), fixed, leastCopy)
}

func (p *packer) tryDynamic(least int) {
	symbols, distances := countSymbols(p.text, least)
	symbols = lengthsFor(symbols, maxCodeBits)
	distances = lengthsFor(distances, maxCodeBits)
	out := beginBlock(dynamic)
	writeLengths(out, symbols, distances)
	p.finish(out, codes{symbols: newCode(symbols), distances: newCode(distances)}, least)
}

func countSymbols(text string, least int) (symbols, distances []int) {
	symbols = make([]int, mostSymbols)
	distances = make([]int, mostDistances)
	for p := range pieces(text, least) {
		symbols[p.mark().symbol]++
		if p.isCopy() {
			distances[distanceMark(p.distance).symbol]++
		}
	}
	symbols[endOfBlock]++
	return symbols, distances
}

// finish leaves the text as soon as the stream is too long to be kept.
func (p *packer) finish(out *writer, c codes, least int) {
	for next := range pieces(p.text, least) {
		if len(out.data) >= p.room {
			return
		}
		out.piece(c, next)
	}
	out.mark(c.symbols, mark{symbol: endOfBlock})
	p.keep(out)
}

func (p *packer) keep(out *writer) {
	if len(out.data) < p.room {
		p.best = string(out.data)
		p.room = len(out.data)
	}
}

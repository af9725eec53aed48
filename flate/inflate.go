// Package flate reads and writes DEFLATE streams (RFC 1951).
package flate

// The kinds of blocks.
const (
	stored  = 0
	static  = 1
	dynamic = 2
)

// Of each symbol of a length, and of a distance: the least one that it stands for, and how many bits behind it tell more (RFC 1951, 3.2.5).
var (
	lengthLeast   = [29]int{3, 4, 5, 6, 7, 8, 9, 10, 11, 13, 15, 17, 19, 23, 27, 31, 35, 43, 51, 59, 67, 83, 99, 115, 131, 163, 195, 227, 258}
	lengthBits    = [29]int{0, 0, 0, 0, 0, 0, 0, 0, 1, 1, 1, 1, 2, 2, 2, 2, 3, 3, 3, 3, 4, 4, 4, 4, 5, 5, 5, 5, 0}
	distanceLeast = [30]int{1, 2, 3, 4, 5, 7, 9, 13, 17, 25, 33, 49, 65, 97, 129, 193, 257, 385, 513, 769, 1025, 1537, 2049, 3073, 4097, 6145, 8193, 12289, 16385, 24577}
	distanceBits  = [30]int{0, 0, 0, 0, 1, 1, 2, 2, 3, 3, 4, 4, 5, 5, 6, 6, 7, 7, 8, 8, 9, 9, 10, 10, 11, 11, 12, 12, 13, 13}
)

// stream is a stream that is being read.
type stream struct {
	in  reader
	out text
}

// Inflate reads a stream from the beginning of data: what it stands for, at most most bytes, and how many bytes of data it takes up.
func Inflate(data string, most int) (string, int, error) {
	s := &stream{in: reader{data: data}, out: text{most: most}}
	last := false
	for number := 0; !last; number++ {
		var err error
		last, err = s.readBlock()
		if err != nil {
			return "", 0, &BlockError{Number: number, Err: err}
		}
	}
	return string(s.out.told), s.in.bytesRead(), nil
}

// readBlock answers whether the block is the last one.
func (s *stream) readBlock() (bool, error) {
	last, err := s.in.bit()
	if err != nil {
		return false, err
	}
	kind, err := s.in.number(2)
	if err != nil {
		return false, err
	}
	switch kind {
	case stored:
		err = s.readStored()
	case static:
		err = s.readPacked(fixed)
	case dynamic:
		err = s.readDynamic()
	default:
		err = broken(errKind)
	}
	return last == 1, err
}

func (s *stream) readStored() error {
	s.in.skipToByte()
	length, err := s.in.number(16)
	if err != nil {
		return err
	}
	complement, err := s.in.number(16)
	if err != nil {
		return err
	}
	if length+complement != 1<<16-1 {
		return broken(errComplement)
	}
	for range length {
		b, err := s.in.number(bitsOfByte)
		if err != nil {
			return err
		}
		err = s.out.tell(byte(b))
		if err != nil {
			return err
		}
	}
	return nil
}

func (s *stream) readDynamic() error {
	c, err := readCodes(&s.in)
	if err != nil {
		return err
	}
	return s.readPacked(c)
}

func (s *stream) readPacked(c codes) error {
	for {
		symbol, err := c.symbols.read(&s.in)
		if err != nil {
			return err
		}
		switch {
		case symbol < endOfBlock:
			err = s.out.tell(byte(symbol))
		case symbol == endOfBlock:
			return nil
		default:
			err = s.readCopy(symbol, c.distances)
		}
		if err != nil {
			return err
		}
	}
}

func (s *stream) readCopy(symbol int, distances code) error {
	length, err := s.readLength(symbol)
	if err != nil {
		return err
	}
	distance, err := s.readDistance(distances)
	if err != nil {
		return err
	}
	return s.out.repeat(distance, length)
}

func (s *stream) readLength(symbol int) (int, error) {
	row := symbol - firstLength
	if row >= len(lengthLeast) {
		return 0, broken(errSymbol)
	}
	more, err := s.in.number(lengthBits[row])
	if err != nil {
		return 0, err
	}
	return lengthLeast[row] + more, nil
}

func (s *stream) readDistance(distances code) (int, error) {
	symbol, err := distances.read(&s.in)
	if err != nil {
		return 0, err
	}
	if symbol >= len(distanceLeast) {
		return 0, broken(errDistance)
	}
	more, err := s.in.number(distanceBits[symbol])
	if err != nil {
		return 0, err
	}
	return distanceLeast[symbol] + more, nil
}

package flate

const bitsOfByte = 8

// reader hands out bits one by one, so that no bit behind a stream is ever asked for.
type reader struct {
	data string
	at   int
}

func (r *reader) bit() (int, error) {
	place := r.at / bitsOfByte
	if place >= len(r.data) {
		return 0, ErrEnd
	}
	bit := int(r.data[place]) >> (r.at % bitsOfByte) & 1
	r.at++
	return bit, nil
}

// number reads a number whose lowest bit comes first.
func (r *reader) number(width int) (int, error) {
	n := 0
	for i := range width {
		bit, err := r.bit()
		if err != nil {
			return 0, err
		}
		n |= bit << i
	}
	return n, nil
}

func (r *reader) skipToByte() {
	r.at = r.bytesRead() * bitsOfByte
}

func (r *reader) bytesRead() int {
	return (r.at + bitsOfByte - 1) / bitsOfByte
}

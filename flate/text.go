package flate

// text is what a stream has told so far.
type text struct {
	told []byte
	most int
}

func (t *text) tell(b byte) error {
	if len(t.told) >= t.most {
		return ErrMost
	}
	t.told = append(t.told, b)
	return nil
}

// repeat goes byte by byte, as a copy may reach into what it tells itself.
func (t *text) repeat(distance, length int) error {
	if distance > len(t.told) {
		return broken(errFar)
	}
	for range length {
		err := t.tell(t.told[len(t.told)-distance])
		if err != nil {
			return err
		}
	}
	return nil
}

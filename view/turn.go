package view

// Turn answers the data with each item's bytes the other way round; the data is whole items.
func Turn(data string, width int) string {
	out := make([]byte, 0, len(data))
	for end := width; end <= len(data); end += width {
		for back := range width {
			out = append(out, data[end-1-back])
		}
	}
	return string(out)
}

package tensor

const (
	leastKind = len("|b1")
	mostKind  = len("<c16")
)

// Width tells how many bytes an item of the kind has.
func Width(kind string) (int, error) {
	if len(kind) < leastKind || len(kind) > mostKind {
		return 0, errKind
	}
	sign, letter := kind[0], kind[1]
	width := widthOf(kind[2:])
	if !goesWithSign(width, sign) || !goesWithLetter(width, letter) {
		return 0, errKind
	}
	return width, nil
}

// widthOf is 0 for all that is no width: a reader of numbers would let signs and needless zeros pass.
func widthOf(digits string) int {
	switch digits {
	case "1":
		return 1
	case "2":
		return 2
	case "4":
		return 4
	case "8":
		return 8
	case "16":
		return 16
	}
	return 0
}

func goesWithSign(width int, sign byte) bool {
	if width == 1 {
		return sign == '|'
	}
	return sign == '<' || sign == '>'
}

func goesWithLetter(width int, letter byte) bool {
	switch letter {
	case 'b':
		return width == 1
	case 'i', 'u':
		return width >= 1 && width <= 8
	case 'f':
		return width >= 2 && width <= 8
	case 'c':
		return width >= 8
	}
	return false
}

package pouch_test

import (
	"fmt"
	"math/rand"
	"regexp"
	"slices"
	"strconv"
	"strings"
	"testing"

	"pouch/pouch"
)

func mustRead(t *testing.T, about, data string, want pouch.Tensor) {
	t.Helper()
	got, e := pouch.ReadNpy(data)
	if !sameTensor(got, want) || e != pouch.OK {
		t.Errorf("%s: ReadNpy(%.200q) = %s, %d, want %s, OK", about, data, show(got), e, show(want))
	}
}

func mustNotRead(t *testing.T, about, data string, want pouch.Errno) {
	t.Helper()
	got, e := pouch.ReadNpy(data)
	if !sameTensor(got, pouch.Tensor{}) || e != want {
		t.Errorf("%s: ReadNpy(%.200q) = %s, %d, want nothing and %d", about, data, show(got), e, want)
	}
}

// npyFile is a file of a version with the right length of its head.
func npyFile(version int, head, items string) string {
	size := string([]byte{byte(len(head)), byte(len(head) >> 8)})
	if version > 1 {
		size += "\x00\x00"
	}
	return "\x93NUMPY" + string([]byte{byte(version), 0}) + size + head + items
}

// mustReadHead reads a head in a file of each version.
func mustReadHead(t *testing.T, about, head string, want pouch.Tensor) {
	t.Helper()
	for version := 1; version <= 3; version++ {
		mustRead(t, about, npyFile(version, head, want.Data), want)
	}
}

// mustNotReadHead takes items of the most likely sizes, so that the head alone is to blame.
func mustNotReadHead(t *testing.T, about, head string) {
	t.Helper()
	for version := 1; version <= 3; version++ {
		for _, items := range []string{"", "a", "ab", "abcd"} {
			mustNotRead(t, about, npyFile(version, head, items), pouch.ErrNpy)
		}
	}
}

// headSigns are the signs of a head; blanks may stand ahead of each. Commas that may be left out are not among them.
func headSigns() []string {
	return []string{"{", "'descr'", ":", "'<i2'", ",", "\"fortran_order\"", ":", "True", ",", "'shape'", ":", "(", "1", ",", "2", ")", "}", "\n"}
}

func ofHeadSigns() pouch.Tensor {
	return pouch.Tensor{Kind: "<i2", Shape: []int{1, 2}, Fortran: true, Data: "abcd"}
}

func TestReadNpyLength(t *testing.T) {
	want := pouch.Tensor{Kind: "|u1", Shape: []int{3}, Data: "abc"}
	for version := 1; version <= 3; version++ {
		for _, size := range []int{255, 256, 257, 2999, 3000, 3001, 5000} {
			head := "{'descr':'|u1','fortran_order':False,'shape':(3,)}"
			head += strings.Repeat(" ", size-len(npyFile(version, head+"\n", want.Data))) + "\n"
			file := npyFile(version, head, want.Data)
			if len(file) != size {
				t.Fatalf("a file of %d bytes, not %d", len(file), size)
			}
			if size > 3000 {
				mustNotRead(t, "P11: too long", file, pouch.ErrLong)
				continue
			}
			mustRead(t, "P11: as long as it may be", file, want)
		}
	}
	mustNotRead(t, "P11: 3000 bytes", strings.Repeat("x", 3000), pouch.ErrNpy)
	mustNotRead(t, "P11: 3001 bytes", strings.Repeat("x", 3001), pouch.ErrLong)
	mustNotRead(t, "P11: a million bytes", strings.Repeat(" ", 1000000), pouch.ErrLong)
	mustNotRead(t, "P11: nothing", "", pouch.ErrNpy)
}

func TestReadNpyCutShortAndMoreBehind(t *testing.T) {
	for version := 1; version <= 3; version++ {
		for _, want := range []pouch.Tensor{ofHeadSigns(), {Kind: "|u1", Shape: []int{0}}, {Kind: "<c16", Data: manyBytes(16)}} {
			whole := npyFile(version, fileByWords(want)[10:128], want.Data)
			mustRead(t, "P12: whole", whole, want)
			for i := range len(whole) {
				mustNotRead(t, "P12: cut short", whole[:i], pouch.ErrNpy)
				mustNotRead(t, "P12: the beginning cut off", whole[i+1:], pouch.ErrNpy)
				mustNotRead(t, "P12: a byte left out", whole[:i]+whole[i+1:], pouch.ErrNpy)
			}
			for _, more := range []string{"\x00", "\n", " ", "a", "ab", whole} {
				mustNotRead(t, "P12: more behind", whole+more, pouch.ErrNpy)
				mustNotRead(t, "P12: more ahead", more+whole, pouch.ErrNpy)
			}
		}
	}
}

func TestReadNpyBeginning(t *testing.T) {
	head := strings.Join(headSigns(), "")
	want := ofHeadSigns()
	for at := range 8 {
		for b := range 256 {
			for version := 1; version <= 3; version++ {
				file := []byte(npyFile(version, head, want.Data))
				if file[at] == byte(b) || at == 6 && version > 1 && (b == 2 || b == 3) {
					continue
				}
				file[at] = byte(b)
				mustNotRead(t, "P12: another beginning", string(file), pouch.ErrNpy)
			}
		}
	}
	mustNotRead(t, "P12: version 1 with four bytes", "\x93NUMPY\x01\x00"+npyFile(2, head, want.Data)[8:], pouch.ErrNpy)
	mustNotRead(t, "P12: version 2 with two bytes", "\x93NUMPY\x02\x00"+npyFile(1, head, want.Data)[8:], pouch.ErrNpy)
}

func TestReadNpyHeadsLength(t *testing.T) {
	head := strings.Join(headSigns(), "")
	want := ofHeadSigns()
	for at := 8; at < 12; at++ {
		for version := 1; version <= 3; version++ {
			if version == 1 && at >= 10 {
				continue
			}
			for b := range 256 {
				file := []byte(npyFile(version, head, want.Data))
				if file[at] == byte(b) {
					continue
				}
				file[at] = byte(b)
				mustNotRead(t, "P12: another length", string(file), pouch.ErrNpy)
			}
		}
	}
	for _, size := range []string{"\xff\xff\xff\xff", "\x00\x00\x00\x80", "\xff\xff\xff\x7f", "\x00\x00\x00\x00", "\x01\x00\x00\x00"} {
		mustNotRead(t, "P12: a great length", "\x93NUMPY\x02\x00"+size+head+want.Data, pouch.ErrNpy)
		mustNotRead(t, "P12: a great length", "\x93NUMPY\x03\x00"+size+head+want.Data, pouch.ErrNpy)
		mustNotRead(t, "P12: a great length", "\x93NUMPY\x01\x00"+size[2:]+head+want.Data, pouch.ErrNpy)
		mustNotRead(t, "P12: a great length, nothing behind", "\x93NUMPY\x03\x00"+size, pouch.ErrNpy)
	}
	// A length of which the second byte counts, too.
	long := strings.Repeat(" ", 700) + head
	mustReadHead(t, "P12: a length of two bytes", long, want)
}

func TestReadNpyFieldsInEachOrder(t *testing.T) {
	fields := []string{"'descr':'>u4'", "'fortran_order':True", "'shape':(1,1)"}
	want := pouch.Tensor{Kind: ">u4", Shape: []int{1, 1}, Fortran: true, Data: "abcd"}
	for a, first := range fields {
		for b, second := range fields {
			for c, third := range fields {
				each := first + "," + second + "," + third
				if a == b || b == c || a == c {
					mustNotReadHead(t, "P12: a field twice", "{"+each+"}\n")
					mustNotReadHead(t, "P12: a field twice", "{"+each+",}\n")
					continue
				}
				mustReadHead(t, "P12: fields", "{"+each+"}\n", want)
				mustReadHead(t, "P12: a comma behind", "{"+each+",}\n", want)
				mustNotReadHead(t, "P12: two commas behind", "{"+each+",,}\n")
				mustNotReadHead(t, "P12: a comma ahead", "{,"+each+"}\n")
				mustNotReadHead(t, "P12: two commas between", "{"+first+",,"+second+","+third+"}\n")
				mustNotReadHead(t, "P12: no comma between", "{"+first+" "+second+","+third+"}\n")
				mustNotReadHead(t, "P12: no comma between", "{"+first+","+second+third+"}\n")
				for _, fourth := range append(slices.Clone(fields), "'x':1", "'descr_':'>u4'", "'':()") {
					mustNotReadHead(t, "P12: a fourth field", "{"+each+","+fourth+"}\n")
					mustNotReadHead(t, "P12: a fourth field", "{"+fourth+","+each+"}\n")
				}
			}
			mustNotReadHead(t, "P12: two fields", "{"+first+","+second+"}\n")
			mustNotReadHead(t, "P12: two fields", "{"+first+","+second+",}\n")
		}
		mustNotReadHead(t, "P12: one field", "{"+first+"}\n")
	}
	for _, none := range []string{"", "\n", "{}\n", "{,}\n", "{}", "{", "}\n"} {
		mustNotReadHead(t, "P12: no field", none)
	}
}

func TestReadNpyWrongFields(t *testing.T) {
	right := strings.Join(headSigns(), "")
	for _, c := range [][2]string{
		{"'descr'", "'Descr'"}, {"'descr'", "'desc'"}, {"'descr'", "'descr '"}, {"'descr'", "''"}, {"'descr'", "descr"},
		{"'descr'", "'shape'"}, {"'shape'", "'descr'"}, {"fortran_order", "fortran order"}, {"fortran_order", "order"},
		{"'<i2'", "'i2'"}, {"'<i2'", "'<i3'"}, {"'<i2'", "'<I2'"}, {"'<i2'", "<i2"}, {"'<i2'", "''"}, {"'<i2'", "'=i2'"}, {"'<i2'", "'|i2'"}, {"'<i2'", "'<i02'"}, {"'<i2'", "'<i2"}, {"'<i2'", "<i2'"}, {"'<i2'", "'\\x3ci2'"}, {"'<i2'", "u'<i2'"}, {"'<i2'", "['<i2']"}, {"'<i2'", "''<i2''"},
		{"True", "true"}, {"True", "TRUE"}, {"True", "1"}, {"True", "'True'"}, {"True", "Tru"}, {"True", "Truee"}, {"True", "TrueFalse"}, {"True", "FalseTrue"}, {"True", ""}, {"True", "None"}, {"True", "(True)"},
		{"(1,2)", "(1,2"}, {"(1,2)", "1,2)"}, {"(1,2)", "1,2"}, {"(1,2)", "[1,2]"}, {"(1,2)", "((1,2))"}, {"(1,2)", "()()"}, {"(1,2)", ""}, {"(1,2)", "(1;2)"}, {"(1,2)", "'(1,2)'"}, {"(1,2)", "(2)"}, {"(1,2)", "(1 2)"}, {"(1,2)", "(1,2)L"},
		{"{", "{{"}, {"{", ""}, {"{", "("}, {"}", ""}, {"}", "}}"}, {"}", "],"}, {"}", ")"}, {"}", "},"},
		{"\n", ""}, {"\n", "\n\n"}, {"\n", "\r\n"}, {"\n", "\n "}, {"\n", "\r"}, {"\n", "\x00"}, {"\n", "\n\x00"}, {"\n", " \n}\n"},
		{":", ""}, {":", "::"}, {":", "="}, {":", ","}, {",", ";"}, {",", ":"},
	} {
		if !strings.Contains(right, c[0]) {
			t.Fatalf("%q is not in the head", c[0])
		}
		mustNotReadHead(t, "P12: wrong fields", strings.Replace(right, c[0], c[1], 1))
	}
}

func TestReadNpyQuotes(t *testing.T) {
	const single, double = "'", `"`
	for mask := range 256 {
		quote := func(at int) string {
			if mask>>at&1 == 1 {
				return double
			}
			return single
		}
		head := "{" + quote(0) + "descr" + quote(1) + ":" + quote(2) + "<i2" + quote(3) + "," + quote(4) + "fortran_order" + quote(5) + ":True," + quote(6) + "shape" + quote(7) + ":(1,2)}\n"
		alike := true
		for at := 0; at < 8; at += 2 {
			alike = alike && quote(at) == quote(at+1)
		}
		if alike {
			mustReadHead(t, "P12: both quotes", head, ofHeadSigns())
		} else {
			mustNotReadHead(t, "P12: other quotes behind", head)
		}
	}
}

func TestReadNpyBlanks(t *testing.T) {
	signs := headSigns()
	want := ofHeadSigns()
	for _, blanks := range []string{"", " ", "  ", strings.Repeat(" ", 100)} {
		mustReadHead(t, "P12: blanks ahead of all", blanks+strings.Join(signs, blanks), want)
	}
	for at := range signs {
		spaced := slices.Clone(signs)
		for _, blanks := range []string{" ", "     ", strings.Repeat(" ", 1000)} {
			spaced[at] = blanks + signs[at]
			mustReadHead(t, "P12: blanks ahead of one", strings.Join(spaced, ""), want)
		}
		for _, other := range []string{"\t", "\n", "\r", "\v", "\f", "\x00", "\u00a0", "\xa0", "\u2003", " \t ", " \n"} {
			spaced[at] = other + signs[at]
			mustNotReadHead(t, "P12: no blanks", strings.Join(spaced, ""))
		}
	}
	allowed := map[int]bool{}
	head := ""
	for _, sign := range signs {
		allowed[len(head)] = true
		head += sign
	}
	for at := range len(head) + 1 {
		if !allowed[at] {
			mustNotReadHead(t, "P12: blanks elsewhere", head[:at]+" "+head[at:])
			mustNotReadHead(t, "P12: blanks elsewhere", head[:at]+"   "+head[at:])
		}
	}
	for _, number := range []string{"1 0", "1 ", " 1"} {
		head := "{'descr':'|u1','fortran_order':False,'shape':(" + number + ",)}\n"
		if number == "1 0" {
			mustNotRead(t, "P12: a blank in a number", npyFile(1, head, manyBytes(10)), pouch.ErrNpy)
			continue
		}
		mustReadHead(t, "P12: a blank beside a number", head, pouch.Tensor{Kind: "|u1", Shape: []int{1}, Data: "a"})
	}
	mustReadHead(t, "P12: blanks beside commas that may be left out", "{'descr':'|u1','fortran_order':False,'shape':(1 , 1 , ) , } \n", pouch.Tensor{Kind: "|u1", Shape: []int{1, 1}, Data: "a"})
	mustReadHead(t, "P12: blanks in a shape without numbers", "{'descr':'|u1','fortran_order': False,'shape':(  )}\n", pouch.Tensor{Kind: "|u1", Data: "a"})
}

func TestReadNpyShapes(t *testing.T) {
	const ahead, behind = "{'descr':'|u1','fortran_order':False,'shape':", "}\n"
	for _, c := range []struct {
		text  string
		shape []int
	}{
		{"()", nil}, {"(0,)", []int{0}}, {"(7,)", []int{7}}, {"(10,)", []int{10}}, {"(42,)", []int{42}}, {"(100,)", []int{100}}, {"(299,)", []int{299}}, {"(300,)", []int{300}},
		{"(9999,0)", []int{9999, 0}}, {"(0,1000)", []int{0, 1000}}, {"(0,9999,)", []int{0, 9999}}, {"(1,1)", []int{1, 1}}, {"(1,1,)", []int{1, 1}},
		{"(2,3,4)", []int{2, 3, 4}}, {"(2,3,4,)", []int{2, 3, 4}}, {"(1,2,3,4)", []int{1, 2, 3, 4}}, {"(1,2,3,4,)", []int{1, 2, 3, 4}}, {"(9999,9999,9999,0)", []int{9999, 9999, 9999, 0}},
	} {
		items := 1
		for _, number := range c.shape {
			items *= number
		}
		mustReadHead(t, "P12: "+c.text, ahead+c.text+behind, pouch.Tensor{Kind: "|u1", Shape: c.shape, Data: manyBytes(items)})
	}
	for _, text := range []string{
		"(,)", "(1)", "(0)", "(1,,)", "(,1)", "(,1,)", "(1,,1)", "(1,1,,)", "(01,)", "(00,)", "(001,)", "(0001,)", "(00001,)", "(1,01)", "(+1,)", "(-1,)", "(-0,)", "(1.0,)", "(1.,)", "(1e0,)", "(0x1,)", "(1L,)", "(1_0,)", "('1',)", "(a,)", "(True,)",
		"(10000,0)", "(0,10000)", "(0,99999)", "(0,00000)", "(0,18446744073709551616)", "(0,4294967296)", "(4294967297,)", "(18446744073709551617,)", "(1,1,1,1,1)", "(0,0,0,0,0)", "(1,1,1,1,1,)", "(" + strings.Repeat("1,", 1000) + ")", "(" + strings.Repeat("0,", 1000) + ")", "(0," + strings.Repeat("9", 2000) + ")",
		"(\u0661,)", "(\u00b2,)", "(1,\n)", "(1;)", "( 1 1 )",
	} {
		mustNotReadHead(t, "P12: no shape", ahead+text+behind)
	}
	mustNotRead(t, "P12: 301 items", npyFile(1, ahead+"(301,)"+behind, manyBytes(301)), pouch.ErrNpy)
	mustNotRead(t, "P12: 1000 items", npyFile(1, ahead+"(1000,)"+behind, manyBytes(1000)), pouch.ErrNpy)
	mustNotRead(t, "P12: all items", npyFile(1, ahead+"(9999,9999,9999,9999)"+behind, ""), pouch.ErrNpy)
}

func TestReadNpyKinds(t *testing.T) {
	for kind, width := range kinds() {
		most := 300 / width
		for _, items := range []int{0, 1, 2, most} {
			head := fmt.Sprintf("{\"shape\": (%d,), 'fortran_order': True, 'descr': '%s'}\n", items, kind)
			mustReadHead(t, "P12: each kind", head, pouch.Tensor{Kind: kind, Shape: []int{items}, Fortran: true, Data: manyBytes(items * width)})
			for _, size := range []int{items*width - 1, items*width + 1, items * (width + 1)} {
				if size >= 0 && size != items*width {
					mustNotRead(t, "P12: other bytes", npyFile(2, head, manyBytes(size)), pouch.ErrNpy)
				}
			}
		}
		head := fmt.Sprintf("{\"shape\": (%d,), 'fortran_order': True, 'descr': '%s'}\n", most+1, kind)
		mustNotRead(t, "P12: one item too many", npyFile(1, head, manyBytes((most+1)*width)), pouch.ErrNpy)
	}
}

func TestReadNpyAnswersNewMemory(t *testing.T) {
	file := npyFile(1, strings.Join(headSigns(), ""), "abcd")
	first, _ := pouch.ReadNpy(file)
	second, _ := pouch.ReadNpy(file)
	first.Shape[0] = 77
	if !sameTensor(second, ofHeadSigns()) {
		t.Errorf("P2: a changed answer changed another one: %s", show(second))
	}
	mustRead(t, "P2: again", file, ofHeadSigns())
}

// headPattern has P12's head but for the rule that its fields are three different ones.
func headPattern() *regexp.Regexp {
	const kind = `(?:\|[biu]1|[<>](?:[iuf][248]|c8|c16))`
	const number = ` *(?:0|[1-9][0-9]{0,3})`
	const shape = ` *\((?:|` + number + ` *,|` + number + `(?: *,` + number + `)+(?: *,)?) *\)`
	quoted := func(text string) string { return `(?: *'` + text + `'| *"` + text + `")` }
	field := `(` + quoted("descr") + ` *:` + quoted(kind) + `|` + quoted("fortran_order") + ` *: *(?:True|False)|` + quoted("shape") + ` *:` + shape + `)`
	return regexp.MustCompile(`\A *\{` + field + ` *,` + field + ` *,` + field + `(?: *,)? *\} *\n\z`)
}

// readByWords reads a file as P12 tells it, by patterns.
func readByWords(pattern *regexp.Regexp, data string) (pouch.Tensor, bool) {
	const beginning = "\x93NUMPY"
	if len(data) < 12 || data[:6] != beginning || data[6] < 1 || data[6] > 3 || data[7] != 0 {
		return pouch.Tensor{}, false
	}
	size, ahead := int(data[8])+int(data[9])<<8, 10
	if data[6] > 1 {
		size, ahead = size+int(data[10])<<16+int(data[11])<<24, 12
	}
	if size > len(data)-ahead {
		return pouch.Tensor{}, false
	}
	fields := pattern.FindStringSubmatch(data[ahead : ahead+size])
	if fields == nil {
		return pouch.Tensor{}, false
	}
	var found pouch.Tensor
	names, items := "", 1
	for _, field := range fields[1:] {
		name, value, _ := strings.Cut(field, ":")
		names += strings.Trim(name, ` '"`) + " "
		switch {
		case strings.Contains(name, "descr"):
			found.Kind = strings.Trim(value, ` '"`)
		case strings.Contains(name, "fortran"):
			found.Fortran = strings.Contains(value, "True")
		default:
			for _, digits := range regexp.MustCompile(`[0-9]+`).FindAllString(value, -1) {
				number, _ := strconv.Atoi(digits)
				found.Shape = append(found.Shape, number)
				items *= number
			}
		}
	}
	found.Data = data[ahead+size:]
	width := kinds()[found.Kind]
	whole := strings.Contains(names, "descr ") && strings.Contains(names, "fortran_order ") && strings.Contains(names, "shape ")
	return found, whole && len(found.Shape) <= 4 && len(found.Data) <= 300 && items*width == len(found.Data)
}

func mustReadByWords(t *testing.T, pattern *regexp.Regexp, data string) bool {
	t.Helper()
	want, fine := readByWords(pattern, data)
	if fine {
		mustRead(t, "P12: by its words", data, want)
	} else {
		mustNotRead(t, "P12: by its words", data, pouch.ErrNpy)
	}
	return fine
}

func TestReadNpyByWords(t *testing.T) {
	pattern := headPattern()
	fine := 0
	count := func(head, items string, version int) {
		if mustReadByWords(t, pattern, npyFile(version, head, items)) {
			fine++
		}
	}
	for i, right := range []string{
		"{'descr':'|u1','fortran_order':False,'shape':(2,)}\n",
		"{'descr': '|u1', 'fortran_order': True, 'shape': (1, 2), }  \n",
		" { \"shape\" : ( 1 , 2 , ) , 'fortran_order' : False , \"descr\" : \"|b1\" , } \n",
		"{'fortran_order':True,'shape':(),'descr':'<f2'}\n",
	} {
		version := 1 + i%3
		count(right, "ab", version)
		for at := range len(right) {
			count(right[:at]+right[at+1:], "ab", version)
			for b := range 128 {
				count(right[:at]+string(rune(b))+right[at+1:], "ab", version)
				count(right[:at]+string(rune(b))+right[at:], "ab", version)
			}
		}
	}
	if fine < 100 {
		t.Errorf("only %d heads were fine", fine)
	}
}

func TestReadNpyOfAnySigns(t *testing.T) {
	pattern := headPattern()
	random := rand.New(rand.NewSource(12))
	parts := []string{"{", "}", ",", ":", "(", ")", "'", "\"", " ", "\n", "0", "1", "2", "10", "True", "False", "'descr'", "\"shape\"", "'fortran_order'", "'|u1'", "\"<i2\"", "\x93NUMPY", "\x01\x00", "\x00", "(1,)", "()"}
	fine := 0
	for range 60000 {
		signs := headSigns()
		for range random.Intn(4) {
			at := random.Intn(len(signs))
			switch random.Intn(3) {
			case 0:
				signs = slices.Delete(signs, at, at+1)
			case 1:
				signs = slices.Insert(signs, at, parts[random.Intn(len(parts))])
			case 2:
				signs[at] = parts[random.Intn(len(parts))]
			}
		}
		file := npyFile(1+random.Intn(3), strings.Join(signs, ""), "abcd"[:random.Intn(3)*2])
		if random.Intn(10) == 0 {
			file = file[:random.Intn(len(file)+1)]
		}
		if mustReadByWords(t, pattern, file) {
			fine++
		}
	}
	if fine < 1000 {
		t.Errorf("only %d files were fine", fine)
	}
}

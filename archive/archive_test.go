package archive

import (
	"errors"
	"slices"
	"strings"
	"testing"

	"pouch/flate"
	"pouch/npy"
	"pouch/tensor"
)

func member(name string, packed bool) Member {
	return Member{Name: name, Packed: packed, Tensor: tensor.Tensor{Kind: "|u1", Shape: []int{2}, Data: "ab"}}
}

func partOf(t *testing.T, m Member) part {
	t.Helper()
	p, err := newPart(m, nil)
	if err != nil {
		t.Fatal(err)
	}
	return p
}

func errorsOf(data string, most int) []error {
	var out []error
	for _, err := range Members(data, most) {
		out = append(out, err)
	}
	return out
}

func TestSaveIsLeftEarly(t *testing.T) {
	for wrong := range 4 {
		asked := 0
		_, err := Save(func(yield func(Member) bool) {
			for {
				m := member(strings.Repeat("a", asked+1), false)
				if asked == wrong {
					m.Name = ""
				}
				asked++
				if !yield(m) {
					return
				}
			}
		})
		var place *MemberError
		if !errors.As(err, &place) || place.Number != wrong || asked != wrong+1 {
			t.Errorf("%d members were asked for, %v, want the member %d to be the last one", asked, err, wrong)
		}
	}
}

func TestMembersMayBeLeftEarly(t *testing.T) {
	data, err := Save(slices.Values([]Member{member("a", false), member("b", true), member("c", false)}))
	if err != nil {
		t.Fatal(err)
	}
	for leave, want := range []string{"a", "ab", "abc"} {
		got := ""
		for m, err := range Members(data, 3000) {
			if err != nil {
				t.Error(err)
			}
			got += m.Name
			if len(got) > leave {
				break
			}
		}
		if got != want {
			t.Errorf("left behind %q, want %q", got, want)
		}
	}
}

func TestPartsMayBeGoneThroughAgain(t *testing.T) {
	text := partOf(t, member("a", false)).text() + partOf(t, member("b", true)).text() + "PK"
	all := partsOf(text)
	for range 2 {
		names := ""
		for p, err := range all {
			if err != nil {
				t.Error(err)
			}
			names += p.name
		}
		if names != "ab" {
			t.Errorf("the parts %q, want \"ab\"", names)
		}
	}
}

func TestSaveWrapsTheRule(t *testing.T) {
	for _, c := range []struct {
		name string
		rule error
	}{{"", errNoName}, {"A", errNoName}, {"abcdefghijklm", errNoName}, {"a", errTwice}} {
		_, err := Save(slices.Values([]Member{member("a", false), member(c.name, false)}))
		var place *MemberError
		var noName *NameError
		if !errors.As(err, &place) || place.Number != 1 || !errors.As(err, &noName) || !errors.Is(err, c.rule) || !strings.Contains(err.Error(), "member 1: no name: "+c.rule.Error()) {
			t.Errorf("Save of a member %q: %v, want %v", c.name, err, c.rule)
		}
	}
	wrong := member("b", true)
	wrong.Tensor.Data = "abc"
	_, err := Save(slices.Values([]Member{wrong}))
	var place *MemberError
	var none *tensor.Error
	if !errors.As(err, &place) || place.Number != 0 || !errors.As(err, &none) {
		t.Errorf("Save of no tensor: %v", err)
	}
}

func TestMembersWrapTheRuleOfALayout(t *testing.T) {
	right := partOf(t, member("a", false))
	noName, noMethod, noLength := right, right, right
	noName.name = "B"
	noMethod.method = 9
	noLength.length++
	many := []part{right, right, right, right, right}
	for i := range many {
		many[i].name += strings.Repeat("a", i)
	}
	whole := write([]part{right})
	for _, c := range []struct {
		data string
		rule error
	}{
		{"", errOther},
		{whole + "\x00", errOther},
		{whole[1:], errOther},
		{"PK\x03\x04", errShort},
		{whole[:partHead-1], errShort},
		{right.text()[:len(right.text())-1], errShort},
		{strings.Replace(whole, ".npy", ".npx", 1), errNoName},
		{write([]part{noName}), errNoName},
		{write([]part{right, right}), errTwice},
		{write([]part{noMethod}), errMethod},
		{write([]part{noLength}), errLength},
		{write(many), errMany},
	} {
		all := errorsOf(c.data, 3000)
		var none *LayoutError
		if len(all) != 1 || !errors.As(all[0], &none) || !errors.Is(all[0], c.rule) || !strings.Contains(all[0].Error(), "no archive: ") {
			t.Errorf("Members of %q: %v, want %v alone", c.data, all, c.rule)
		}
	}
}

func TestMembersWrapWhatIsWrongWithAFile(t *testing.T) {
	right := partOf(t, member("a", true))
	behind, few, cut, many, noStream := right, right, right, right, right
	behind.bytes += "\x00"
	few.length++
	cut.bytes = cut.bytes[:len(cut.bytes)-1]
	many.length--
	noStream.bytes = "\x07"
	for _, c := range []struct {
		wrong part
		rule  error
	}{{behind, errBehind}, {few, errFew}, {cut, flate.ErrEnd}, {many, flate.ErrMost}} {
		mustWrapPacked(t, c.wrong, c.rule)
	}
	var broken *flate.DataError
	if err := errorsOf(write([]part{noStream}), 3000)[0]; !errors.As(err, &broken) {
		t.Errorf("Members of no stream: %v", err)
	}
}

// mustWrapPacked has the wrong part as the second of three: the ones around it are to be read none the less.
func mustWrapPacked(t *testing.T, wrong part, rule error) {
	t.Helper()
	all := errorsOf(write([]part{partOf(t, member("b", true)), wrong, partOf(t, member("c", false))}), 3000)
	if len(all) != 3 || all[0] != nil || all[2] != nil {
		t.Fatalf("Members: %v, want an error at the member 1 alone", all)
	}
	var place *MemberError
	var packed *PackedError
	if !errors.As(all[1], &place) || place.Number != 1 || !errors.As(all[1], &packed) || !errors.Is(all[1], rule) || !strings.Contains(all[1].Error(), "member 1: no packed file: ") {
		t.Errorf("Members: %v, want %v", all[1], rule)
	}
}

func TestMembersTellOfLengthsSumsAndFiles(t *testing.T) {
	right := partOf(t, member("a", false))
	otherSum, noFile := right, right
	otherSum.sum++
	noFile.bytes, noFile.length, noFile.sum = "", 0, 0
	if err := errorsOf(write([]part{right}), int(right.length)-1)[0]; !errors.Is(err, ErrMost) {
		t.Errorf("a file that is too long: %v", err)
	}
	if err := errorsOf(write([]part{otherSum}), int(right.length))[0]; !errors.Is(err, ErrSum) {
		t.Errorf("another sum: %v", err)
	}
	var none *npy.FileError
	if err := errorsOf(write([]part{noFile}), 0)[0]; !errors.As(err, &none) {
		t.Errorf("no file: %v", err)
	}
}

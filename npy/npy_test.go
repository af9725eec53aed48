package npy

import (
	"errors"
	"strings"
	"testing"

	"pouch/tensor"
)

const rightHead = "{'descr':'|u1','fortran_order':False,'shape':(2,)}\n"

func fileOf(head, items string) string {
	return magic + string([]byte{1, 0, byte(len(head)), byte(len(head) >> 8)}) + head + items
}

func TestLengthBytes(t *testing.T) {
	for version, want := range map[byte]int{1: 2, 2: 4, 3: 4} {
		if size, err := lengthBytes(version); size != want || err != nil {
			t.Errorf("lengthBytes(%d) = %d, %v, want %d", version, size, err, want)
		}
	}
	for _, version := range []byte{0, 4, 255} {
		if size, err := lengthBytes(version); size != 0 || !errors.Is(err, errVersion) {
			t.Errorf("lengthBytes(%d) = %d, %v, want errVersion", version, size, err)
		}
	}
}

func TestReadWrapsTheRule(t *testing.T) {
	for _, c := range []struct {
		data string
		rule error
	}{
		{"", errMagic},
		{"\x93NUMPX\x01\x00", errMagic},
		{magic, errVersion},
		{magic + "\x01", errVersion},
		{magic + "\x01\x01\x00\x00", errVersion},
		{magic + "\x00\x00\x00\x00", errVersion},
		{magic + "\x01\x00\x00", errShort},
		{magic + "\x02\x00\x00\x00\x00", errShort},
		{magic + "\x01\x00\x02\x00{", errShort},
		{fileOf("", ""), errSign},
		{fileOf("{'descr", ""), errQuotes},
		{fileOf("{descr", ""), errQuotes},
		{fileOf("{'x':", ""), errName},
		{fileOf("{'descr':'|u1','descr'", ""), errTwice},
		{fileOf("{'fortran_order':true", ""), errTruth},
		{fileOf("{'shape':(,", ""), errNumber},
		{fileOf("{'shape':(01,", ""), errNumber},
		{fileOf("{'shape':(12345)", ""), errNumber},
		{fileOf("{'shape':(1)", ""), errComma},
		{fileOf("{'shape':(1,1 1", ""), errSign},
		{fileOf(rightHead+" ", "ab"), errBehind},
	} {
		_, err := Read(c.data)
		var none *FileError
		if !errors.As(err, &none) || !errors.Is(err, c.rule) || !strings.Contains(err.Error(), c.rule.Error()) {
			t.Errorf("Read(%q): %v, want %v", c.data, err, c.rule)
		}
	}
}

func TestReadWrapsWhatATensorLacks(t *testing.T) {
	for _, data := range []string{
		fileOf(rightHead, "a"),
		fileOf(rightHead, "abc"),
		fileOf(strings.Replace(rightHead, "|u1", "|u3", 1), "ab"),
		fileOf(strings.Replace(rightHead, "(2,)", "(1,1,1,1,2)", 1), "ab"),
	} {
		_, err := Read(data)
		var file *FileError
		var none *tensor.Error
		if !errors.As(err, &file) || !errors.As(err, &none) {
			t.Errorf("Read(%q): %v, want a file's error that wraps a tensor's", data, err)
		}
	}
}

func TestWriteAnswersATensorsError(t *testing.T) {
	_, err := Write(tensor.Tensor{Kind: "<i4", Data: "abc"})
	var file *FileError
	var none *tensor.Error
	if errors.As(err, &file) || !errors.As(err, &none) {
		t.Errorf("Write of three bytes: %v, want a tensor's error alone", err)
	}
}

package number

import "testing"

func TestBytes(t *testing.T) {
	for _, c := range []struct {
		size    int
		numbers []uint64
		want    string
	}{
		{2, nil, ""},
		{2, []uint64{0}, "\x00\x00"},
		{2, []uint64{0x0102, 0xfffe}, "\x02\x01\xfe\xff"},
		{4, []uint64{0x01020304}, "\x04\x03\x02\x01"},
		{4, []uint64{0xfffefdfc, 1}, "\xfc\xfd\xfe\xff\x01\x00\x00\x00"},
	} {
		if got := Bytes(c.size, c.numbers...); got != c.want {
			t.Errorf("Bytes(%d, %v) = %q, want %q", c.size, c.numbers, got, c.want)
		}
	}
}

func TestOf(t *testing.T) {
	for data, want := range map[string]uint64{
		"":                 0,
		"\x01\x00":         1,
		"\x00\x01":         256,
		"\xff\xff":         65535,
		"\x04\x03\x02\x01": 0x01020304,
		"\x00\x00\x00\x80": 1 << 31,
		"\xff\xff\xff\xff": 1<<32 - 1,
	} {
		if got := Of(data); got != want {
			t.Errorf("Of(%q) = %d, want %d", data, got, want)
		}
	}
}

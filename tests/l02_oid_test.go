package tests

import (
	"bytes"
	"math"
	"slices"
	"strconv"
	"strings"
	"testing"

	"loop.example/g00326/impl"
)

// wantGroups is the document's form of a number, told from its bits: groups of
// seven, none ahead that is empty.
func wantGroups(n int) []byte {
	bits := strconv.FormatInt(int64(n), 2)
	bits = strings.Repeat("0", (7-len(bits)%7)%7) + bits
	var out []byte
	for at := 0; at < len(bits); at += 7 {
		head := "1"
		if at+7 == len(bits) {
			head = "0"
		}
		x, _ := strconv.ParseUint(head+bits[at:at+7], 2, 8)
		out = append(out, byte(x))
	}
	return out
}

func wantOidBytes(o []int) []byte {
	var out []byte
	for _, n := range o {
		out = append(out, wantGroups(n)...)
	}
	return out
}

func wantOidText(o []int) string {
	text := ""
	for i, n := range o {
		if i > 0 {
			text += "."
		}
		text += strconv.Itoa(n)
	}
	return text
}

func isOid(t *testing.T, o []int) {
	t.Helper()
	if !impl.OidOk(o) {
		t.Errorf("OidOk(%v) = false", o)
	}
	b := impl.PutOid(o)
	if !bytes.Equal(b, wantOidBytes(o)) {
		t.Errorf("PutOid(%v) = %x; want %x", o, b, wantOidBytes(o))
	}
	if back, ok := impl.GetOid(b); !ok || !slices.Equal(back, o) {
		t.Errorf("GetOid(%x) = %v, %v; want %v, true", b, back, ok, o)
	}
	s := impl.OidText(o)
	if s != wantOidText(o) {
		t.Errorf("OidText(%v) = %q; want %q", o, s, wantOidText(o))
	}
	if back, ok := impl.ParseOid(s); !ok || !slices.Equal(back, o) {
		t.Errorf("ParseOid(%q) = %v, %v; want %v, true", s, back, ok, o)
	}
}

func noOid(t *testing.T, o []int) {
	t.Helper()
	if impl.OidOk(o) {
		t.Errorf("OidOk(%v) = true", o)
	}
	if b := impl.PutOid(o); len(b) != 0 {
		t.Errorf("PutOid(%v) = %x; want nothing", o, b)
	}
	if s := impl.OidText(o); s != "" {
		t.Errorf("OidText(%v) = %q; want nothing", o, s)
	}
}

func noOidBytes(t *testing.T, b []byte) {
	t.Helper()
	if o, ok := impl.GetOid(b); ok || len(o) != 0 {
		t.Errorf("GetOid(%x) = %v, %v; want nothing", b, o, ok)
	}
}

func noOidText(t *testing.T, s string) {
	t.Helper()
	if o, ok := impl.ParseOid(s); ok || len(o) != 0 {
		t.Errorf("ParseOid(%q) = %v, %v; want nothing", s, o, ok)
	}
}

func TestNamesAsWrittenOut(t *testing.T) {
	for _, c := range []struct {
		o     []int
		bytes string
		text  string
	}{
		{[]int{0}, "\x00", "0"},
		{[]int{127}, "\x7f", "127"},
		{[]int{128}, "\x81\x00", "128"},
		{[]int{16383}, "\xff\x7f", "16383"},
		{[]int{16384}, "\x81\x80\x00", "16384"},
		{[]int{100000}, "\x86\x8d\x20", "100000"},
		{[]int{1, 3, 1, 0}, "\x01\x03\x01\x00", "1.3.1.0"},
		{[]int{1, 3, 128, 100000}, "\x01\x03\x81\x00\x86\x8d\x20", "1.3.128.100000"},
		{[]int{0, 0}, "\x00\x00", "0.0"},
		{[]int{9, 8, 7, 6, 5, 4, 3, 2, 1, 0}, "\x09\x08\x07\x06\x05\x04\x03\x02\x01\x00", "9.8.7.6.5.4.3.2.1.0"},
	} {
		isOid(t, c.o)
		if b := impl.PutOid(c.o); string(b) != c.bytes {
			t.Errorf("PutOid(%v) = %x; want %x", c.o, b, c.bytes)
		}
		if s := impl.OidText(c.o); s != c.text {
			t.Errorf("OidText(%v) = %q; want %q", c.o, s, c.text)
		}
	}
}

func TestEveryNumberOfANameComesBack(t *testing.T) {
	for n := 0; n <= 100000; n++ {
		isOid(t, []int{n})
	}
}

func TestNamesOfEveryLengthComeBack(t *testing.T) {
	numbers := []int{0, 1, 9, 10, 127, 128, 129, 16383, 16384, 99999, 100000}
	for size := 1; size <= 10; size++ {
		for first := range numbers {
			o := make([]int, size)
			for i := range o {
				o[i] = numbers[(first+i*3)%len(numbers)]
			}
			isOid(t, o)
		}
	}
}

func TestListsThatAreNoNames(t *testing.T) {
	noOid(t, nil)
	noOid(t, []int{})
	noOid(t, make([]int, 11))
	noOid(t, make([]int, 12))
	noOid(t, make([]int, 5000))
	for _, n := range []int{-1, -128, 100001, 100002, 1 << 17, 1 << 21, 1 << 32, 1<<32 + 1, math.MinInt, math.MaxInt} {
		noOid(t, []int{n})
		noOid(t, []int{1, n})
		noOid(t, []int{n, 1})
		noOid(t, []int{1, 2, 3, 4, 5, 6, 7, 8, 9, n})
		noOid(t, []int{1, 2, 3, 4, n, 6, 7, 8, 9, 10})
	}
}

func TestNamesThatAreTheSame(t *testing.T) {
	same := [][2][]int{{nil, nil}, {nil, {}}, {{1}, {1}}, {{1, 2, 3}, {1, 2, 3}}, {{-5, 200000}, {-5, 200000}}, {make([]int, 20), make([]int, 20)}}
	for _, c := range same {
		if !impl.SameOid(c[0], c[1]) || !impl.SameOid(c[1], c[0]) {
			t.Errorf("SameOid(%v, %v) = false", c[0], c[1])
		}
	}
	other := [][2][]int{{nil, {0}}, {{1}, {2}}, {{1}, {1, 0}}, {{1, 2, 3}, {1, 2, 4}}, {{1, 2, 3}, {0, 2, 3}}, {{1, 2, 3}, {3, 2, 1}}, {{1}, {1 + 1<<32}}}
	for _, c := range other {
		if impl.SameOid(c[0], c[1]) || impl.SameOid(c[1], c[0]) {
			t.Errorf("SameOid(%v, %v) = true", c[0], c[1])
		}
	}
}

func TestOrderOfNames(t *testing.T) {
	ascending := [][]int{nil, {math.MinInt}, {-1}, {0}, {0, 0}, {0, 0, 0}, {0, 1}, {1}, {1, 3}, {1, 3, 0}, {1, 3, 1, 9, 9}, {1, 3, 2}, {1, 4}, {2}, {9, 100000}, {10}, {100000}, {100001}, {math.MaxInt}}
	for i, a := range ascending {
		for j, b := range ascending {
			if got := impl.LessOid(a, b); got != (i < j) {
				t.Errorf("LessOid(%v, %v) = %v", a, b, got)
			}
		}
	}
}

func TestWhatIsBelowAName(t *testing.T) {
	below := [][2][]int{{{1}, nil}, {{1, 3, 5}, {1, 3}}, {{1, 3, 5}, {1}}, {{1, 3, 5}, nil}, {{1, 3, 5}, {}}, {{0, 0}, {0}}, {{-1, 5}, {-1}}, {make([]int, 20), make([]int, 19)}}
	for _, c := range below {
		if !impl.Below(c[0], c[1]) {
			t.Errorf("Below(%v, %v) = false", c[0], c[1])
		}
		if impl.Below(c[1], c[0]) {
			t.Errorf("Below(%v, %v) = true", c[1], c[0])
		}
	}
	not := [][2][]int{{nil, nil}, {{1}, {1}}, {{1, 3}, {1, 3}}, {{1, 4, 5}, {1, 3}}, {{2, 3, 5}, {1, 3}}, {{1, 3}, {1, 3, 5}}, {nil, {0}}, {{2, 0}, {1}}, {{0, 1, 3}, {1, 3}}}
	for _, c := range not {
		if impl.Below(c[0], c[1]) {
			t.Errorf("Below(%v, %v) = true", c[0], c[1])
		}
	}
}

func TestBytesThatAreNoName(t *testing.T) {
	noOidBytes(t, nil)
	noOidBytes(t, []byte{})
	for _, s := range []string{
		"\x80\x01", "\x80\x00", "\x80\x80\x01", "\x01\x80\x01", "\x80", "\x80\x86\x8d\x20", "\x86\x8d\x20\x80\x01",
		"\x81", "\x01\x81", "\x86\x8d", "\x01\x86\x8d", "\xff", "\xff\xff\xff",
		"\x86\x8d\x21", "\x86\x8e\x00", "\x87\x80\x00", "\x01\x86\x8d\x21", "\x86\x8d\x21\x01", "\xff\xff\x7f", "\x81\x80\x80\x00", "\x81\x80\x80\x80\x80\x80\x80\x80\x80\x01",
		"\x82\x80\x80\x80\x80\x80\x80\x80\x80\x00", "\x84\x80\x80\x80\x80\x80\x80\x80\x80\x80\x01",
		strings.Repeat("\x01", 11), strings.Repeat("\x81\x00", 11), strings.Repeat("\x00", 1000), strings.Repeat("\x01", 10) + "\x81",
	} {
		noOidBytes(t, []byte(s))
	}
	for _, x := range []byte{0x80, 0x81, 0xff} {
		noOidBytes(t, bytes.Repeat([]byte{x}, 100000))
		noOidBytes(t, append(bytes.Repeat([]byte{x}, 100000), 1))
	}
}

func TestNamesThatAreCut(t *testing.T) {
	b := impl.PutOid([]int{1, 100000, 16384, 128})
	for end := 0; end <= len(b); end++ {
		// What lies behind the end is not read.
		o, ok := impl.GetOid(b[:end])
		whole := end == 1 || end == 4 || end == 7 || end == 9
		if ok != whole || whole && !bytes.Equal(impl.PutOid(o), b[:end]) || !whole && len(o) != 0 {
			t.Errorf("GetOid(%x) = %v, %v", b[:end], o, ok)
		}
	}
}

// Each name has one form in bytes: what is read is just what is put.
func TestEveryFormOfShortNames(t *testing.T) {
	for x := 0; x <= 255; x++ {
		for y := 0; y <= 255; y++ {
			for _, tail := range []string{"", "\x00", "\x20", "\x21", "\x80", "\x8d\x20", "\x8d\x21"} {
				b := append([]byte{byte(x), byte(y)}, tail...)
				o, ok := impl.GetOid(b)
				if ok && !bytes.Equal(wantOidBytes(o), b) || !ok && len(o) != 0 {
					t.Fatalf("GetOid(%x) = %v, %v", b, o, ok)
				}
			}
		}
	}
}

func TestTextsThatAreNoName(t *testing.T) {
	for _, s := range []string{
		"", ".", "..", "1.", ".1", "1..2", "1.2.", ".1.2", "1.2..3",
		"00", "01", "007", "1.00", "1.02", "01.2", "1.02.3", "0100000", "000000", "0000001",
		"100001", "100002", "200000", "999999", "1000000", "1.100001", "100001.1", "18446744073709551617", "9223372036854775808", "1.4294967297", strings.Repeat("9", 1000), strings.Repeat("0", 1000), "1." + strings.Repeat("1", 1000),
		"-1", "+1", "-0", "1.-1", "1.+2", " 1", "1 ", "1. 2", "1 .2", "1,2", "1.x", "x", "1x", "x1", "0x1", "1_0", "1e3", "1/2", "1:2", "1;2", "\x001", "1\x00", "1\n", "\n1", "١", "1.²", "\xff", "1.\xb1",
		"1.1.1.1.1.1.1.1.1.1.1", "0.0.0.0.0.0.0.0.0.0.0", "1.2.3.4.5.6.7.8.9.10.", "1.2.3.4.5.6.7.8.9.", strings.Repeat("1.", 100000) + "1", strings.Repeat(".", 100000),
	} {
		noOidText(t, s)
	}
}

// Each name has one form in text: what is read is just what is told.
func TestEveryFormOfShortTexts(t *testing.T) {
	signs := "019.- +/:\x00"
	texts := []string{""}
	for range 5 {
		var longer []string
		for _, s := range texts {
			for i := range len(signs) {
				longer = append(longer, s+signs[i:i+1])
			}
		}
		for _, s := range longer {
			o, ok := impl.ParseOid(s)
			if ok && wantOidText(o) != s || !ok && len(o) != 0 {
				t.Fatalf("ParseOid(%q) = %v, %v", s, o, ok)
			}
		}
		texts = longer
	}
	for _, s := range []string{"0", "10", "99.0", "1.0.1", "0.0.9", "10.90"} {
		if _, ok := impl.ParseOid(s); !ok {
			t.Errorf("ParseOid(%q) = false", s)
		}
	}
}

func TestNamesShareNothing(t *testing.T) {
	room := []int{1, 3, 128, 7, 7, 7}
	impl.OidOk(room[:3])
	b := impl.PutOid(room[:3])
	if string(b) != "\x01\x03\x81\x00" || impl.OidText(room[:3]) != "1.3.128" {
		t.Errorf("%x %q", b, impl.OidText(room[:3]))
	}
	impl.SameOid(room[:2], room[:3])
	impl.LessOid(room[:2], room[:3])
	impl.Below(room[:3], room[:2])
	if !slices.Equal(room, []int{1, 3, 128, 7, 7, 7}) {
		t.Errorf("%v", room)
	}
	wide := append(make([]byte, 0, 8), b...)
	o, _ := impl.GetOid(wide)
	again, _ := impl.GetOid(wide)
	o[0] = 99
	_ = append(o, 98)
	b[0] = 97
	if !slices.Equal(again, []int{1, 3, 128}) || !bytes.Equal(wide[:8], []byte{1, 3, 0x81, 0, 0, 0, 0, 0}) || string(impl.PutOid(room[:3])) != "\x01\x03\x81\x00" {
		t.Errorf("%v %x", again, wide[:8])
	}
}

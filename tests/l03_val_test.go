package tests

import (
	"bytes"
	"math"
	"slices"
	"strings"
	"testing"

	"loop.example/g00326/impl"
)

var valKinds = []int{5, 2, 4, 6, 128, 130}

// sameParts is told part by part, not by the program's own SameVal.
func sameParts(a impl.Val, b impl.Val) bool {
	return a.K == b.K && a.N == b.N && a.S == b.S && slices.Equal(a.O, b.O)
}

// isVal wants v to have just this form, and to come back of it wherever it stands.
func isVal(t *testing.T, v impl.Val, form string) {
	t.Helper()
	if !impl.ValOk(v) {
		t.Errorf("ValOk(%#v) = false", v)
	}
	for _, head := range []string{"", "\x05", "\x02\x01\x07", "\x81\xff\x00\x04\x02"} {
		b := impl.PutVal([]byte(head), v)
		if string(b) != head+form {
			t.Errorf("PutVal(%x, %#v) = %x; want %x", head, v, b, head+form)
		}
		for _, tail := range []string{"", "\x00", "\x05\x00", "\xff\xff\xff"} {
			all := []byte(head + form + tail)
			back, behind, ok := impl.GetVal(all, len(head))
			if !ok || !sameParts(back, v) || !impl.SameVal(back, v) || behind != len(head)+len(form) {
				t.Errorf("GetVal(%x, %d) = %#v, %d, %v; want %#v, %d, true", all, len(head), back, behind, ok, v, len(head)+len(form))
			}
		}
	}
}

func noVal(t *testing.T, v impl.Val) {
	t.Helper()
	if impl.ValOk(v) {
		t.Errorf("ValOk(%#v) = true", v)
	}
	for _, head := range []string{"", "\x01", "\x05\x00\x09"} {
		if b := impl.PutVal([]byte(head), v); string(b) != head {
			t.Errorf("PutVal(%x, %#v) = %x; want %x", head, v, b, head)
		}
	}
	if b := impl.PutVal(nil, v); len(b) != 0 {
		t.Errorf("PutVal(nil, %#v) = %x; want nothing", v, b)
	}
}

func noValAt(t *testing.T, b []byte, at int) {
	t.Helper()
	if v, behind, ok := impl.GetVal(b, at); ok || behind != 0 || !sameParts(v, impl.Val{}) {
		t.Errorf("GetVal(%x, %d) = %#v, %d, %v; want nothing", b, at, v, behind, ok)
	}
}

// noValBytes wants no value there, whatever stands ahead and behind.
func noValBytes(t *testing.T, s string) {
	t.Helper()
	noValAt(t, []byte(s), 0)
	noValAt(t, []byte("\x05\x00"+s), 2)
	noValAt(t, append(make([]byte, 0, len(s)+40), s...), 0)
}

func TestValueConstants(t *testing.T) {
	got := []int{impl.VNull, impl.VInt, impl.VText, impl.VOid, impl.VNone, impl.VEnd}
	if !slices.Equal(got, valKinds) || impl.MaxText != 20 {
		t.Errorf("%v %d", got, impl.MaxText)
	}
}

func TestValuesAsWrittenOut(t *testing.T) {
	isVal(t, impl.Val{K: 5}, "\x05\x00")
	isVal(t, impl.Val{K: 128}, "\x80\x00")
	isVal(t, impl.Val{K: 130}, "\x82\x00")
	isVal(t, impl.Val{K: 2, N: 0}, "\x02\x01\x00")
	isVal(t, impl.Val{K: 2, N: -1}, "\x02\x01\xff")
	isVal(t, impl.Val{K: 2, N: 300}, "\x02\x02\x01\x2c")
	isVal(t, impl.Val{K: 4}, "\x04\x00")
	isVal(t, impl.Val{K: 4, S: "ab"}, "\x04\x02ab")
	isVal(t, impl.Val{K: 4, S: "0"}, "\x04\x010")
	isVal(t, impl.Val{K: 6, O: []int{0}}, "\x06\x01\x00")
	isVal(t, impl.Val{K: 6, O: []int{1, 3, 128, 100000}}, "\x06\x07\x01\x03\x81\x00\x86\x8d\x20")
}

func TestListsWithoutElementsAreNamedByNoKind(t *testing.T) {
	for form, v := range map[string]impl.Val{"\x05\x00": {K: 5, O: []int{}}, "\x02\x01\x09": {K: 2, N: 9, O: make([]int, 0, 4)}, "\x04\x01z": {K: 4, S: "z", O: []int{7}[:0]}, "\x80\x00": {K: 128, O: []int{}}, "\x82\x00": {K: 130, O: []int{}}} {
		isVal(t, v, form)
	}
}

func TestNumbersThatAreValues(t *testing.T) {
	numbers := []int{math.MinInt32, math.MinInt32 + 1, -8388609, -8388608, -32769, -32768, -129, -128, -1, 0, 1, 127, 128, 255, 256, 32767, 32768, 8388607, 8388608, math.MaxInt32 - 1, math.MaxInt32}
	for n := -700; n <= 700; n++ {
		numbers = append(numbers, n)
	}
	for _, n := range numbers {
		isVal(t, impl.Val{K: 2, N: n}, string(wantPart(2, wantInt(n))))
	}
}

func TestNumbersThatAreNoValues(t *testing.T) {
	for _, n := range []int{math.MinInt32 - 1, math.MinInt32 - 2, math.MaxInt32 + 1, math.MaxInt32 + 2, 1 << 32, 1<<32 + 1, -1 << 32, -1<<32 - 1, math.MinInt, math.MaxInt} {
		noVal(t, impl.Val{K: 2, N: n})
	}
}

func TestTextsThatAreValues(t *testing.T) {
	for size := 0; size <= 20; size++ {
		for _, s := range []string{strings.Repeat("a", size), strings.Repeat("\x00", size), strings.Repeat("\xff", size), string(filled(size))} {
			isVal(t, impl.Val{K: 4, S: s}, "\x04"+string(rune(size))+s)
		}
	}
	for x := 0; x <= 255; x++ {
		s := string([]byte{byte(x), 'm', byte(x)})
		isVal(t, impl.Val{K: 4, S: s}, "\x04\x03"+s)
	}
	// A text is counted by its bytes: ten of two bytes each are as many as there may be.
	isVal(t, impl.Val{K: 4, S: strings.Repeat("ä", 10)}, "\x04\x14"+strings.Repeat("\xc3\xa4", 10))
}

func TestTextsThatAreNoValues(t *testing.T) {
	for _, size := range []int{21, 22, 40, 127, 128, 250, 251, 256, 70000} {
		noVal(t, impl.Val{K: 4, S: strings.Repeat("a", size)})
	}
	noVal(t, impl.Val{K: 4, S: strings.Repeat("ä", 11)})
	for _, size := range []int{21, 22, 40, 127, 128, 200, 250, 251, 255} {
		noValBytes(t, string(wantPart(4, filled(size))))
	}
}

func TestNamesThatAreValues(t *testing.T) {
	for size := 1; size <= 10; size++ {
		for _, n := range []int{0, 1, 127, 128, 16383, 16384, 99999, 100000} {
			o := slices.Repeat([]int{n}, size)
			o[0] = size
			isVal(t, impl.Val{K: 6, O: o}, string(wantPart(6, wantOidBytes(o))))
		}
	}
}

func TestNamesThatAreNoValues(t *testing.T) {
	noVal(t, impl.Val{K: 6})
	noVal(t, impl.Val{K: 6, O: []int{}})
	noVal(t, impl.Val{K: 6, O: make([]int, 11)})
	noVal(t, impl.Val{K: 6, O: slices.Repeat([]int{5}, 12)})
	noVal(t, impl.Val{K: 6, O: make([]int, 3000)})
	for _, n := range []int{-1, 100001, 1 << 32, math.MinInt, math.MaxInt} {
		noVal(t, impl.Val{K: 6, O: []int{n}})
		noVal(t, impl.Val{K: 6, O: []int{1, n, 2}})
		noVal(t, impl.Val{K: 6, O: []int{1, 2, 3, 4, 5, 6, 7, 8, 9, n}})
	}
}

func TestKindsThatThereAreNot(t *testing.T) {
	others := []int{math.MinInt, math.MaxInt, 1 << 32, 1<<32 + 5, 1<<32 + 2}
	for _, k := range valKinds {
		others = append(others, k+256, k-256, -k, k+512)
	}
	for k := -300; k <= 600; k++ {
		if !slices.Contains(valKinds, k) {
			others = append(others, k)
		}
	}
	for _, k := range others {
		noVal(t, impl.Val{K: k})
		noVal(t, impl.Val{K: k, N: 7})
		noVal(t, impl.Val{K: k, S: "a"})
		noVal(t, impl.Val{K: k, O: []int{1}})
	}
}

func TestWhatAKindDoesNotName(t *testing.T) {
	right := map[int]impl.Val{5: {K: 5}, 2: {K: 2, N: 3}, 4: {K: 4, S: "b"}, 6: {K: 6, O: []int{1, 3}}, 128: {K: 128}, 130: {K: 130}}
	for _, k := range valKinds {
		for _, n := range []int{1, -1, 256, math.MaxInt32, math.MaxInt, math.MinInt} {
			if v := right[k]; k != 2 {
				v.N = n
				noVal(t, v)
			}
		}
		for _, s := range []string{"a", "\x00", " ", strings.Repeat("a", 20), strings.Repeat("a", 300)} {
			if v := right[k]; k != 4 {
				v.S = s
				noVal(t, v)
			}
		}
		for _, o := range [][]int{{0}, {1, 3}, {-1}, make([]int, 10), make([]int, 11)} {
			if v := right[k]; k != 6 {
				v.O = o
				noVal(t, v)
			}
		}
		noVal(t, impl.Val{K: k, N: 1, S: "a", O: []int{1}})
	}
	// A worth in another kind's field is none, also where the kind's own is empty.
	noVal(t, impl.Val{K: 4, S: "", N: 5})
	noVal(t, impl.Val{K: 2, N: 0, S: "5"})
	noVal(t, impl.Val{K: 6, N: 1})
	noVal(t, impl.Val{K: 6, S: "1.3"})
}

func TestValuesThatAreTheSame(t *testing.T) {
	list := []impl.Val{
		{}, {K: 5}, {K: 2}, {K: 2, N: 1}, {K: 2, N: -1}, {K: 2, N: 1 + 1<<32}, {K: 4}, {K: 4, S: "a"}, {K: 4, S: "A"}, {K: 4, S: "a\x00"}, {K: 4, S: "ab"},
		{K: 6}, {K: 6, O: []int{1}}, {K: 6, O: []int{2}}, {K: 6, O: []int{1, 0}}, {K: 6, O: []int{1, 3}}, {K: 6, O: []int{3, 1}}, {K: 128}, {K: 130},
		// What is no value is held part by part, too, also where its kind does not name them.
		{N: 1}, {S: "a"}, {O: []int{0}}, {K: 5, N: 1}, {K: 5, S: "a"}, {K: 5, O: []int{1}}, {K: 2, N: 1, S: "a"}, {K: 2, N: 1, O: []int{1}}, {K: 4, N: 1, S: "a"}, {K: 4, S: "a", O: []int{1}},
		{K: 6, N: 1, O: []int{1}}, {K: 6, S: "a", O: []int{1}}, {K: 130, N: 9}, {K: 7}, {K: -5}, {K: 5 + 256}, {K: 4, S: strings.Repeat("a", 30)}, {K: 6, O: make([]int, 20)},
	}
	for i, a := range list {
		for j, b := range list {
			b.O = append(make([]int, 0, 30), b.O...)
			if got := impl.SameVal(a, b); got != (i == j) {
				t.Errorf("SameVal(%#v, %#v) = %v", a, b, got)
			}
			if got := impl.SameVal(b, a); got != (i == j) {
				t.Errorf("SameVal(%#v, %#v) = %v", b, a, got)
			}
		}
	}
}

func TestKindsByTheirBytes(t *testing.T) {
	for tag := 0; tag <= 255; tag++ {
		head := string([]byte{byte(tag)})
		if bare := tag == 4 || tag == 5 || tag == 128 || tag == 130; bare {
			isVal(t, impl.Val{K: tag}, head+"\x00")
		} else {
			noValBytes(t, head+"\x00")
		}
		if tag != 2 && tag != 4 && tag != 6 {
			for _, body := range []string{"\x01\x00", "\x01\x05", "\x02\x05\x00", "\x01a", "\x14aaaaaaaaaaaaaaaaaaaa", "\x81\x80" + strings.Repeat("a", 128)} {
				noValBytes(t, head+body)
			}
		}
	}
}

func TestBodiesThatAreNone(t *testing.T) {
	for _, body := range []string{
		"", "\x00\x00", "\x00\x7f", "\xff\x80", "\xff\xff", "\x00\x00\x80", "\x00\x7f\xff\xff",
		"\x00\x80\x00\x00\x00", "\xff\x7f\xff\xff\xff", "\x01\x02\x03\x04\x05", strings.Repeat("\x01", 130),
	} {
		noValBytes(t, string(wantPart(2, []byte(body))))
	}
	for _, body := range []string{
		"", "\x80\x01", "\x80", "\x81", "\x01\x81", "\x01\x80\x01", "\x86\x8d\x21", "\x01\x86\x8d\x21", "\xff\xff\x7f",
		strings.Repeat("\x01", 11), strings.Repeat("\x01", 10) + "\x81", strings.Repeat("\x81\x00", 11), strings.Repeat("\x01", 130),
	} {
		noValBytes(t, string(wantPart(6, []byte(body))))
	}
}

func TestLengthsOfValuesAreSaidInOneForm(t *testing.T) {
	for _, s := range []string{
		"\x05\x81\x00", "\x05\x80", "\x80\x80", "\x82\x81\x00", "\x02\x81\x01\x07", "\x04\x81\x02ab", "\x04\x80ab\x00\x00", "\x04\x82\x00\x02ab",
		"\x06\x81\x02\x01\x03", "\x04\x81\xfb" + strings.Repeat("a", 251), "\x04\xff" + strings.Repeat("a", 255),
	} {
		noValBytes(t, s)
	}
}

func TestValuesThatAreCut(t *testing.T) {
	for _, whole := range []string{"\x05\x00", "\x80\x00", "\x82\x00", "\x02\x01\x00", "\x02\x04\x7f\xff\xff\xff", "\x04\x00", "\x04\x02ab", "\x04\x14aaaaaaaaaaaaaaaaaaaa", "\x06\x01\x00", "\x06\x07\x01\x03\x81\x00\x86\x8d\x20"} {
		all := []byte("\x09" + whole)
		for end := 0; end < len(all); end++ {
			// What lies behind the list's length is not read.
			noValAt(t, all[:end], 1)
		}
		if _, behind, ok := impl.GetVal(all, 1); !ok || behind != len(all) {
			t.Errorf("GetVal(%x, 1) = %d, %v", all, behind, ok)
		}
	}
}

func TestPlacesThatHoldNoValue(t *testing.T) {
	for _, s := range []string{"", "\x05\x00", "\x05\x00\x05\x00", "\x02\x01\x05", "\x04\x03\x05\x00a", "\x82\x00"} {
		b := []byte(s)
		for _, at := range []int{math.MinInt, math.MinInt + 1, -1 << 32, -4, -3, -2, -1, len(b), len(b) + 1, len(b) + 2, 1 << 32, math.MaxInt - 2, math.MaxInt - 1, math.MaxInt} {
			noValAt(t, b, at)
			noValAt(t, append(b, "\x05\x00\x05\x00"...)[:len(b)], at)
		}
	}
}

func TestValuesWithinOtherBytes(t *testing.T) {
	b := []byte("\x04\x03\x05\x00a\x82\x00")
	want := map[int]impl.Val{0: {K: 4, S: "\x05\x00a"}, 2: {K: 5}, 5: {K: 130}}
	behinds := map[int]int{0: 5, 2: 4, 5: 7}
	for at := range b {
		v, ok := want[at]
		if !ok {
			noValAt(t, b, at)
			continue
		}
		if got, behind, ok := impl.GetVal(b, at); !ok || !sameParts(got, v) || behind != behinds[at] {
			t.Errorf("GetVal(%x, %d) = %#v, %d, %v", b, at, got, behind, ok)
		}
	}
}

func TestValuesBehindEachOther(t *testing.T) {
	list := []impl.Val{{K: 2, N: -129}, {K: 5}, {K: 4, S: strings.Repeat("x", 20)}, {K: 6, O: []int{100000, 0}}, {K: 128}, {K: 4}, {K: 2}, {K: 130}, {K: 6, O: []int{5}}}
	var b []byte
	for _, v := range list {
		b = impl.PutVal(b, v)
	}
	at := 0
	for _, want := range list {
		v, behind, ok := impl.GetVal(b, at)
		if !ok || !sameParts(v, want) || behind != at+len(impl.PutVal(nil, want)) {
			t.Fatalf("GetVal(%x, %d) = %#v, %d, %v; want %#v", b, at, v, behind, ok, want)
		}
		at = behind
	}
	if at != len(b) {
		t.Errorf("%d bytes were read of %d", at, len(b))
	}
	noValAt(t, b, at)
}

// Each value has one form: what is read is a value, and just what is put.
func TestEveryFormOfShortValues(t *testing.T) {
	checked := func(b []byte) {
		v, behind, ok := impl.GetVal(b, 0)
		if !ok {
			noValAt(t, b, 0)
			return
		}
		if !impl.ValOk(v) || behind > len(b) || !bytes.Equal(impl.PutVal(nil, v), b[:behind]) {
			t.Fatalf("GetVal(%x, 0) = %#v, %d", b, v, behind)
		}
	}
	for tag := 0; tag <= 255; tag++ {
		for size := 0; size <= 255; size++ {
			for _, body := range []string{"", "\x00", "\x80", "\x00\x00", "\x00\x80", "\x80\x00", "\xff\x7f", "\x81\x00", "\x86\x8d\x20", "\x86\x8d\x21", "\x01\x02\x03\x04\x05\x06\x07\x08\x09\x0a\x0b", strings.Repeat("\x01", 260)} {
				checked(append([]byte{byte(tag), byte(size)}, body...))
			}
		}
	}
}

func TestPutValWritesIntoNothing(t *testing.T) {
	for _, v := range []impl.Val{{K: 5}, {K: 2, N: 300}, {K: 4, S: "ab"}, {K: 6, O: []int{1, 128}}, {K: 130}, {}, {K: 5, N: 1}, {K: 4, S: strings.Repeat("a", 21)}} {
		room := []byte{1, 2, 3, 4, 5, 6, 7, 8, 9, 10}
		b := impl.PutVal(room[:2], v)
		for i := range b {
			b[i] = 99
		}
		_ = append(b, 98, 97)
		if !bytes.Equal(room, []byte{1, 2, 3, 4, 5, 6, 7, 8, 9, 10}) {
			t.Errorf("PutVal of %#v: %v", v, room)
		}
	}
}

func TestNamesOfValuesAreNotWritten(t *testing.T) {
	numbers := []int{1, 3, 128, 7, 7, 7}
	v := impl.Val{K: 6, O: numbers[:3]}
	impl.ValOk(v)
	impl.SameVal(v, impl.Val{K: 6, O: numbers[:2]})
	if b := impl.PutVal(nil, v); string(b) != "\x06\x04\x01\x03\x81\x00" {
		t.Errorf("%x", b)
	}
	if !slices.Equal(numbers, []int{1, 3, 128, 7, 7, 7}) {
		t.Errorf("%v", numbers)
	}
}

func TestValuesThatAreReadShareNothing(t *testing.T) {
	b := []byte("\x04\x02ab\x06\x03\x01\x81\x00\x05\x00")
	text, at, _ := impl.GetVal(b, 0)
	one, behind, _ := impl.GetVal(b, at)
	two, _, _ := impl.GetVal(b, at)
	one.O[0] = 99
	_ = append(one.O, 98)
	bare, _, _ := impl.GetVal(b, behind)
	_ = append(bare.O, 97)
	if !slices.Equal(two.O, []int{1, 128}) || string(b) != "\x04\x02ab\x06\x03\x01\x81\x00\x05\x00" {
		t.Errorf("%v %x", two, b)
	}
	clear(b)
	if text.S != "ab" || !slices.Equal(two.O, []int{1, 128}) {
		t.Errorf("%v %v", text, two)
	}
}

package tests

import (
	"bytes"
	"math"
	"slices"
	"strings"
	"testing"

	"loop.example/g00326/impl"
)

// sameFrameParts compares every field, whatever SameFrame says.
func sameFrameParts(a impl.Frame, b impl.Frame) bool {
	return a.Dst == b.Dst && a.Src == b.Src && a.Tag == b.Tag && bytes.Equal(a.Data, b.Data)
}

// mac is the part of whom a frame is to or from.
func mac(n int) []byte {
	return wantPart(1, wantInt(n))
}

func dataPart(data []byte) []byte {
	return wantPart(3, data)
}

// wantFrame is the document's form of a frame, also of one that is not right.
func wantFrame(f impl.Frame) []byte {
	if f.Tag == 0 {
		return slices.Concat(mac(f.Dst), mac(f.Src), dataPart(f.Data))
	}
	return slices.Concat(mac(f.Dst), mac(f.Src), number(f.Tag), dataPart(f.Data))
}

// isFrame wants f to have just the document's bytes, and to come back of them, every field.
func isFrame(t *testing.T, f impl.Frame) {
	t.Helper()
	if !impl.FrameOk(f) {
		t.Errorf("FrameOk(%#v) = false", f)
	}
	want := wantFrame(f)
	if b := impl.PutFrame(f); !bytes.Equal(b, want) {
		t.Errorf("PutFrame(%#v) = %x; want %x", f, b, want)
	}
	back, ok := impl.GetFrame(want)
	if !ok || !sameFrameParts(back, f) || !impl.SameFrame(back, f) {
		t.Errorf("GetFrame(%x) = %#v, %v; want %#v, true", want, back, ok, f)
	}
}

func noFrameBytes(t *testing.T, b []byte) {
	t.Helper()
	if f, ok := impl.GetFrame(b); ok || !sameFrameParts(f, impl.Frame{}) {
		t.Errorf("GetFrame(%x) = %#v, %v; want nothing", b, f, ok)
	}
}

func noPutFrame(t *testing.T, f impl.Frame) {
	t.Helper()
	if impl.FrameOk(f) {
		t.Errorf("FrameOk(%#v) = true", f)
	}
	if b := impl.PutFrame(f); len(b) != 0 {
		t.Errorf("PutFrame(%#v) = %x; want nothing", f, b)
	}
}

// noFrame wants no bytes of f, and the bytes that it would have not to be read.
func noFrame(t *testing.T, f impl.Frame) {
	t.Helper()
	noPutFrame(t, f)
	noFrameBytes(t, wantFrame(f))
}

// someFrames are right ones: to all and to one, with a tag and without, with no bytes and with some.
func someFrames() []impl.Frame {
	var all []impl.Frame
	for _, dst := range []int{0, 1, 127, 128, 300, 9999} {
		for _, src := range []int{1, 127, 128, 300, 9999} {
			for _, tag := range []int{0, 1, 2, 3, 50, 99} {
				for _, size := range []int{0, 1, 2, 19, 20} {
					all = append(all, impl.Frame{Dst: dst, Src: src, Tag: tag, Data: filled(size)})
				}
			}
		}
	}
	return all
}

func TestFrameConstants(t *testing.T) {
	if impl.MaxMac != 9999 {
		t.Errorf("MaxMac = %d", impl.MaxMac)
	}
}

func TestFramesAsWrittenOut(t *testing.T) {
	for _, c := range []struct {
		form string
		f    impl.Frame
	}{
		{"\x01\x01\x00\x01\x01\x01\x03\x00", impl.Frame{Src: 1}},
		{"\x01\x01\x02\x01\x01\x01\x03\x00", impl.Frame{Dst: 2, Src: 1}},
		{"\x01\x01\x01\x01\x01\x02\x03\x00", impl.Frame{Dst: 1, Src: 2}},
		{"\x01\x01\x00\x01\x01\x01\x02\x01\x01\x03\x00", impl.Frame{Src: 1, Tag: 1}},
		{"\x01\x01\x00\x01\x02\x01\x2c\x02\x01\x05\x03\x02hi", impl.Frame{Src: 300, Tag: 5, Data: []byte("hi")}},
		{"\x01\x01\x7f\x01\x02\x00\x80\x03\x01\x00", impl.Frame{Dst: 127, Src: 128, Data: []byte{0}}},
		{"\x01\x02\x00\xff\x01\x02\x01\x00\x02\x01\x02\x03\x03\x02\x01\x00", impl.Frame{Dst: 255, Src: 256, Tag: 2, Data: []byte{2, 1, 0}}},
		{"\x01\x02\x27\x0f\x01\x02\x27\x0f\x02\x01\x63\x03\x14twenty-bytes-of-text", impl.Frame{Dst: 9999, Src: 9999, Tag: 99, Data: []byte(twentyBytes)}},
		{"\x01\x02\x27\x0f\x01\x02\x27\x0f\x03\x14twenty-bytes-of-text", impl.Frame{Dst: 9999, Src: 9999, Data: []byte(twentyBytes)}},
	} {
		if b := impl.PutFrame(c.f); string(b) != c.form {
			t.Errorf("PutFrame(%#v) = %x; want %x", c.f, b, c.form)
		}
		if f, ok := impl.GetFrame([]byte(c.form)); !ok || !sameFrameParts(f, c.f) {
			t.Errorf("GetFrame(%x) = %#v, %v; want %#v", c.form, f, ok, c.f)
		}
	}
}

func TestFramesComeBack(t *testing.T) {
	for _, f := range someFrames() {
		isFrame(t, f)
	}
}

func TestEveryNumberOfAFrameComesBack(t *testing.T) {
	for n := 1; n <= 9999; n++ {
		isFrame(t, impl.Frame{Dst: n, Src: 10000 - n, Tag: n % 100, Data: filled(n % 21)})
		isFrame(t, impl.Frame{Src: n})
		isFrame(t, impl.Frame{Dst: n, Src: n, Tag: 1})
	}
	for tag := range 100 {
		isFrame(t, impl.Frame{Dst: 7, Src: 8, Tag: tag, Data: []byte{byte(tag)}})
	}
}

func TestEveryByteOfDataComesBack(t *testing.T) {
	for x := range 256 {
		isFrame(t, impl.Frame{Src: 1, Data: []byte{byte(x)}})
		isFrame(t, impl.Frame{Src: 1, Tag: 3, Data: bytes.Repeat([]byte{byte(x)}, 20)})
	}
}

// strayNumbers are none of a frame; some of them would be one by their lowest bytes.
func strayNumbers() []int {
	return []int{-1, -2, -99, -100, -128, -129, -9999, -65536, 10000, 10001, 65535, 65536, 65537, 1 << 24, math.MaxInt32, math.MinInt32}
}

func TestNumbersOfFramesAtTheirEnds(t *testing.T) {
	for _, n := range []int{0, 1, 9998, 9999} {
		isFrame(t, impl.Frame{Dst: n, Src: 1, Tag: 1, Data: []byte("x")})
	}
	for _, n := range []int{1, 2, 9998, 9999} {
		isFrame(t, impl.Frame{Dst: 1, Src: n, Tag: 1, Data: []byte("x")})
	}
	for _, n := range []int{0, 1, 98, 99} {
		isFrame(t, impl.Frame{Dst: 1, Src: 1, Tag: n, Data: []byte("x")})
	}
	for _, tag := range []int{0, 1, 99} {
		for _, n := range strayNumbers() {
			noFrame(t, impl.Frame{Dst: n, Src: 1, Tag: tag, Data: []byte("x")})
			noFrame(t, impl.Frame{Dst: 1, Src: n, Tag: tag, Data: []byte("x")})
		}
		noFrame(t, impl.Frame{Dst: 1, Src: 0, Tag: tag, Data: []byte("x")})
		noFrame(t, impl.Frame{Dst: 0, Src: 0, Tag: tag})
	}
	for _, n := range append(strayNumbers(), 100, 101, 127, 128, 9999) {
		noFrame(t, impl.Frame{Dst: 1, Src: 1, Tag: n, Data: []byte("x")})
		noFrame(t, impl.Frame{Dst: 0, Src: 9999, Tag: n})
	}
}

func TestNumbersOfFramesThatHaveNoBytesAtAll(t *testing.T) {
	for _, n := range []int{math.MaxInt32 + 1, math.MinInt32 - 1, 1 << 32, 1<<32 + 1, 1<<32 + 5, -(1 << 32) + 1, 1 << 62, math.MaxInt, math.MinInt, math.MinInt + 1} {
		noPutFrame(t, impl.Frame{Dst: n, Src: 1})
		noPutFrame(t, impl.Frame{Src: n})
		noPutFrame(t, impl.Frame{Src: 1, Tag: n})
	}
}

func TestSizesOfData(t *testing.T) {
	for _, tag := range []int{0, 99} {
		for size := range 21 {
			isFrame(t, impl.Frame{Dst: 1, Src: 1, Tag: tag, Data: filled(size)})
		}
		for _, size := range []int{21, 22, 100, 127, 128, 129, 249, 250} {
			noFrame(t, impl.Frame{Dst: 1, Src: 1, Tag: tag, Data: filled(size)})
			noFrame(t, impl.Frame{Src: 1, Tag: tag, Data: make([]byte, size)})
		}
		for _, size := range []int{251, 256, 276, 1000, 65536} {
			noPutFrame(t, impl.Frame{Dst: 1, Src: 1, Tag: tag, Data: filled(size)})
		}
	}
}

func TestFramesThatAreWrongInSeveralParts(t *testing.T) {
	noFrame(t, impl.Frame{})
	noFrame(t, impl.Frame{Dst: 10000, Src: 10000, Tag: 100, Data: make([]byte, 21)})
	noFrame(t, impl.Frame{Dst: -1, Src: -1, Tag: -1})
	noFrame(t, impl.Frame{Dst: 1, Tag: 1, Data: []byte("x")})
	noFrame(t, impl.Frame{Dst: 10000, Src: 0, Tag: 0})
}

// framesThatDiffer are no two alike; from the first on, each differs from the first in one part only.
func framesThatDiffer() []impl.Frame {
	return []impl.Frame{
		{Dst: 5, Src: 6, Tag: 7, Data: []byte("data")},
		{Dst: 6, Src: 6, Tag: 7, Data: []byte("data")},
		{Dst: 0, Src: 6, Tag: 7, Data: []byte("data")},
		{Dst: 5 + 256, Src: 6, Tag: 7, Data: []byte("data")},
		{Dst: -5, Src: 6, Tag: 7, Data: []byte("data")},
		{Dst: 5 + 1<<32, Src: 6, Tag: 7, Data: []byte("data")},
		{Dst: 5, Src: 5, Tag: 7, Data: []byte("data")},
		{Dst: 5, Src: 0, Tag: 7, Data: []byte("data")},
		{Dst: 5, Src: 6 + 256, Tag: 7, Data: []byte("data")},
		{Dst: 5, Src: 6 + 1<<32, Tag: 7, Data: []byte("data")},
		{Dst: 5, Src: 6, Tag: 8, Data: []byte("data")},
		{Dst: 5, Src: 6, Tag: 0, Data: []byte("data")},
		{Dst: 5, Src: 6, Tag: 100, Data: []byte("data")},
		{Dst: 5, Src: 6, Tag: -7, Data: []byte("data")},
		{Dst: 5, Src: 6, Tag: 7},
		{Dst: 5, Src: 6, Tag: 7, Data: []byte("dat")},
		{Dst: 5, Src: 6, Tag: 7, Data: []byte("ata")},
		{Dst: 5, Src: 6, Tag: 7, Data: []byte("datb")},
		{Dst: 5, Src: 6, Tag: 7, Data: []byte("Data")},
		{Dst: 5, Src: 6, Tag: 7, Data: []byte("data\x00")},
		{Dst: 5, Src: 6, Tag: 7, Data: []byte("atad")},
		{Dst: 5, Src: 6, Tag: 7, Data: make([]byte, 4)},
		{Dst: 5, Src: 6, Tag: 7, Data: filled(21)},
		{Dst: 5, Src: 6, Tag: 7, Data: filled(300)},
	}
}

func TestFramesThatAreTheSame(t *testing.T) {
	all, others := framesThatDiffer(), framesThatDiffer()
	for i, a := range all {
		for j, b := range others {
			if got := impl.SameFrame(a, b); got != (i == j) {
				t.Errorf("SameFrame(%#v, %#v) = %v", a, b, got)
			}
		}
	}
	if !impl.SameFrame(impl.Frame{}, impl.Frame{Data: []byte{}}) || !impl.SameFrame(impl.Frame{Data: []byte{}}, impl.Frame{}) {
		t.Error("no bytes and nil are not the same")
	}
	if impl.SameFrame(impl.Frame{Dst: 5, Src: 6}, impl.Frame{Dst: 6, Src: 5}) {
		t.Error("to and from are taken for each other")
	}
	long := []byte("data and more")
	if !impl.SameFrame(impl.Frame{Src: 1, Data: long[:4]}, impl.Frame{Src: 1, Data: []byte("data")}) {
		t.Error("what lies behind the data is looked at")
	}
}

func TestFramesThatDifferHaveOtherBytes(t *testing.T) {
	seen := map[string]impl.Frame{}
	for _, f := range someFrames() {
		b := string(impl.PutFrame(f))
		if other, ok := seen[b]; ok {
			t.Errorf("%#v and %#v have the same bytes %x", f, other, b)
		}
		seen[b] = f
	}
}

func TestFramesThatAreCut(t *testing.T) {
	for _, f := range []impl.Frame{{Src: 1}, {Src: 1, Tag: 1}, {Dst: 300, Src: 300, Tag: 99, Data: []byte(twentyBytes)}, {Dst: 9999, Src: 128, Data: []byte("\x03\x00")}} {
		whole := wantFrame(f)
		for end := range whole {
			noFrameBytes(t, whole[:end])
			noFrameBytes(t, whole[:end:end])
		}
		for from := 1; from <= len(whole); from++ {
			noFrameBytes(t, whole[from:])
		}
	}
	noFrameBytes(t, nil)
	noFrameBytes(t, []byte{})
}

func TestMoreBehindFrames(t *testing.T) {
	for _, f := range []impl.Frame{{Src: 1}, {Src: 1, Tag: 1}, {Dst: 300, Src: 300, Tag: 99, Data: []byte(twentyBytes)}} {
		whole := wantFrame(f)
		for x := range 256 {
			noFrameBytes(t, append(bytes.Clone(whole), byte(x)))
		}
		for _, more := range [][]byte{{0, 0}, {3, 0}, {2, 1, 1}, mac(1), dataPart([]byte("x")), whole, make([]byte, 1000)} {
			noFrameBytes(t, slices.Concat(whole, more))
		}
	}
}

func TestWhatStandsAheadOfAFrame(t *testing.T) {
	for _, f := range []impl.Frame{{Src: 1}, {Dst: 2, Src: 3, Tag: 4, Data: []byte("x")}} {
		for _, ahead := range [][]byte{{0}, {1}, {0, 0}, {1, 0}, number(1), mac(0), mac(1), dataPart(nil)} {
			noFrameBytes(t, slices.Concat(ahead, wantFrame(f)))
		}
		noFrameBytes(t, wantPart(48, wantFrame(f)))
	}
}

func TestPartsOfFramesWithAnotherTag(t *testing.T) {
	for tag := range 256 {
		one := wantPart(tag, []byte{1})
		if tag != 1 {
			noFrameBytes(t, slices.Concat(one, mac(1), dataPart([]byte("x"))))
			noFrameBytes(t, slices.Concat(one, mac(1), number(1), dataPart([]byte("x"))))
			noFrameBytes(t, slices.Concat(mac(1), one, dataPart([]byte("x"))))
			noFrameBytes(t, slices.Concat(mac(1), one, number(1), dataPart([]byte("x"))))
			noFrameBytes(t, slices.Concat(one, one, dataPart(nil)))
		}
		if tag != 2 {
			noFrameBytes(t, slices.Concat(mac(1), mac(1), one, dataPart([]byte("x"))))
			noFrameBytes(t, slices.Concat(mac(1), mac(1), one, dataPart(nil)))
		}
		if tag != 3 {
			noFrameBytes(t, slices.Concat(mac(1), mac(1), one))
			noFrameBytes(t, slices.Concat(mac(1), mac(1), number(1), one))
			noFrameBytes(t, slices.Concat(mac(1), mac(1), wantPart(tag, nil)))
			noFrameBytes(t, slices.Concat(mac(1), mac(1), number(1), wantPart(tag, nil)))
		}
	}
}

// Of every row of up to five parts there are only two that are a frame.
func TestPartsOfFramesInEveryOrder(t *testing.T) {
	parts := map[string][]byte{"m": mac(1), "n": number(2), "d": dataPart([]byte{3})}
	rows := []string{""}
	for range 6 {
		var longer []string
		for _, row := range rows {
			var b []byte
			for i := range row {
				b = append(b, parts[row[i:i+1]]...)
			}
			if _, ok := impl.GetFrame(b); ok != (row == "mmd" || row == "mmnd") {
				t.Errorf("GetFrame of %q: %v", row, ok)
			}
			longer = append(longer, row+"m", row+"n", row+"d")
		}
		rows = longer
	}
}

func TestATagOfZeroHasNoPartOfItsOwn(t *testing.T) {
	for _, data := range [][]byte{nil, []byte("x"), []byte("\x02\x01\x05"), filled(20)} {
		for _, dst := range []int{0, 1, 9999} {
			f := impl.Frame{Dst: dst, Src: 9, Data: data}
			isFrame(t, f)
			if b := impl.PutFrame(f); len(b) != len(mac(dst))+len(mac(9))+len(dataPart(data)) {
				t.Errorf("PutFrame(%#v) = %x", f, b)
			}
			for _, zero := range []string{"\x00", "", "\x00\x00", "\x00\x00\x00", "\x00\x00\x00\x00", "\x00\x00\x00\x00\x00"} {
				noFrameBytes(t, slices.Concat(mac(dst), mac(9), wantPart(2, []byte(zero)), dataPart(data)))
				noFrameBytes(t, slices.Concat(mac(dst), mac(9), wantPart(2, []byte(zero)), number(5), dataPart(data)))
				noFrameBytes(t, slices.Concat(mac(dst), mac(9), number(5), wantPart(2, []byte(zero)), dataPart(data)))
			}
		}
	}
}

func TestNumbersOfFramesWhoseBytesAreNone(t *testing.T) {
	for _, bad := range []string{"", "\x00\x01", "\x00\x05", "\x00\x00\x01", "\x00\x00\x00\x01", "\x00\x00\x00\x00\x01", "\x00\x7f", "\xff\xff", "\x01\x01\x01\x01\x01", strings.Repeat("\x01", 130)} {
		body := []byte(bad)
		for _, data := range [][]byte{nil, []byte("x")} {
			noFrameBytes(t, slices.Concat(wantPart(1, body), mac(1), dataPart(data)))
			noFrameBytes(t, slices.Concat(wantPart(1, body), mac(1), number(1), dataPart(data)))
			noFrameBytes(t, slices.Concat(mac(1), wantPart(1, body), dataPart(data)))
			noFrameBytes(t, slices.Concat(mac(1), wantPart(1, body), number(1), dataPart(data)))
			noFrameBytes(t, slices.Concat(mac(1), mac(1), wantPart(2, body), dataPart(data)))
		}
	}
}

func TestLengthsOfFramesAreSaidInOneForm(t *testing.T) {
	needless := func(part []byte) []byte {
		return slices.Concat(part[:1], []byte{129}, part[1:])
	}
	data := dataPart([]byte("hi"))
	isFrame(t, impl.Frame{Dst: 1, Src: 2, Tag: 3, Data: []byte("hi")})
	noFrameBytes(t, slices.Concat(needless(mac(1)), mac(2), number(3), data))
	noFrameBytes(t, slices.Concat(mac(1), needless(mac(2)), number(3), data))
	noFrameBytes(t, slices.Concat(mac(1), mac(2), needless(number(3)), data))
	noFrameBytes(t, slices.Concat(mac(1), mac(2), number(3), needless(data)))
	noFrameBytes(t, slices.Concat(mac(1), mac(2), number(3), []byte{3, 130, 0, 2}, []byte("hi")))
	noFrameBytes(t, slices.Concat(mac(1), mac(2), number(3), []byte{3, 128}, []byte("hi"), []byte{0, 0}))
	noFrameBytes(t, slices.Concat(mac(1), mac(2), needless(data)))
}

// frameOfBytes tells by the chapters ahead what frame these bytes are: their parts, in one of two orders.
func frameOfBytes(b []byte) (impl.Frame, bool) {
	var tags, numbers []int
	var last []byte
	for at := 0; at < len(b); {
		tag, body, behind, ok := impl.GetTlv(b, at)
		if !ok {
			return impl.Frame{}, false
		}
		n, isNumber := impl.GetInt(body)
		if tag != 3 && !isNumber {
			return impl.Frame{}, false
		}
		tags, numbers, last, at = append(tags, tag), append(numbers, n), body, behind
	}
	f := impl.Frame{Data: last}
	switch {
	case slices.Equal(tags, []int{1, 1, 3}):
		f.Dst, f.Src = numbers[0], numbers[1]
	case slices.Equal(tags, []int{1, 1, 2, 3}) && numbers[2] != 0:
		f.Dst, f.Src, f.Tag = numbers[0], numbers[1], numbers[2]
	default:
		return impl.Frame{}, false
	}
	if f.Dst < 0 || f.Dst > 9999 || f.Src < 1 || f.Src > 9999 || f.Tag < 0 || f.Tag > 99 || len(last) > 20 {
		return impl.Frame{}, false
	}
	return f, true
}

// oneFormOfFrame wants what these bytes are, and of a frame just these bytes to be put.
func oneFormOfFrame(t *testing.T, b []byte) {
	t.Helper()
	want, ok := frameOfBytes(b)
	if !ok {
		noFrameBytes(t, b)
		return
	}
	isFrame(t, want)
	if !bytes.Equal(wantFrame(want), b) {
		t.Errorf("%x is a second form of %#v", b, want)
	}
}

func TestEachFrameHasOneForm(t *testing.T) {
	for _, f := range []impl.Frame{
		{Src: 1},
		{Src: 2, Tag: 1},
		{Dst: 3, Src: 1, Data: []byte("\x02\x01\x05\x03\x00")},
		{Dst: 300, Src: 128, Tag: 99, Data: []byte("hi")},
		{Dst: 9999, Src: 9999, Tag: 2, Data: []byte(twentyBytes)},
	} {
		whole := wantFrame(f)
		for at := range whole {
			oneFormOfFrame(t, slices.Delete(bytes.Clone(whole), at, at+1))
			for x := range 256 {
				turned := bytes.Clone(whole)
				turned[at] = byte(x)
				oneFormOfFrame(t, turned)
				oneFormOfFrame(t, slices.Insert(bytes.Clone(whole), at, byte(x)))
				for next := at + 1; next < len(whole); next++ {
					twice := bytes.Clone(turned)
					twice[next] ^= 1
					oneFormOfFrame(t, twice)
				}
			}
		}
	}
}

func TestBytesThatAreNoFrameAtAll(t *testing.T) {
	for _, b := range []string{"\x01", "\x01\x00", "\x01\x01", "\x03\x00", "\x02\x01\x05", "hello", strings.Repeat("\x00", 1000), strings.Repeat("\x01\x01\x01", 1000), strings.Repeat("\xff", 100000)} {
		noFrameBytes(t, []byte(b))
	}
	for first := range 256 {
		noFrameBytes(t, []byte{byte(first)})
		for second := range 256 {
			noFrameBytes(t, []byte{byte(first), byte(second)})
		}
	}
}

func TestTaggedIsTheSameWithThisTag(t *testing.T) {
	tags := []int{0, 1, 2, 98, 99, 100, -1, -99, 9999, math.MaxInt32, math.MinInt32, 1 << 40, math.MaxInt, math.MinInt}
	frames := slices.Concat(framesThatDiffer(), []impl.Frame{{}, {Dst: -1, Src: -1, Tag: -1, Data: filled(1000)}, {Dst: math.MaxInt, Src: math.MinInt, Tag: math.MaxInt, Data: []byte{}}})
	for _, f := range frames {
		data := bytes.Clone(f.Data)
		for _, tag := range tags {
			want := impl.Frame{Dst: f.Dst, Src: f.Src, Tag: tag, Data: data}
			g := impl.Tagged(f, tag)
			if !sameFrameParts(g, want) {
				t.Errorf("Tagged(%#v, %d) = %#v", f, tag, g)
			}
			if impl.SameFrame(f, g) != (f.Tag == tag) || impl.FrameOk(g) != (impl.FrameOk(impl.Tagged(f, 0)) && tag >= 0 && tag <= 99) {
				t.Errorf("Tagged(%#v, %d) = %#v: the same %v, right %v", f, tag, g, impl.SameFrame(f, g), impl.FrameOk(g))
			}
			if !impl.SameFrame(impl.Tagged(g, f.Tag), f) {
				t.Errorf("Tagged(%#v, %d) does not go back", g, f.Tag)
			}
		}
	}
}

func TestTaggedFramesComeBack(t *testing.T) {
	for _, f := range []impl.Frame{{Src: 1}, {Dst: 7, Src: 8, Tag: 9, Data: []byte("hi")}} {
		for tag := range 100 {
			isFrame(t, impl.Tagged(f, tag))
		}
		noFrame(t, impl.Tagged(f, -1))
		noFrame(t, impl.Tagged(f, 100))
	}
}

// Data of every size, also of too many, are new memory, whether the tag is one or not, and even the one that f has.
func TestTaggedFramesShareNothing(t *testing.T) {
	for _, size := range []int{1, 2, 20, 21, 250, 1000} {
		for _, src := range []int{1, 0, -5} {
			for _, tag := range []int{0, 7, 99, 100, -1, math.MinInt} {
				room := filled(size + 8)
				f := impl.Frame{Dst: 3, Src: src, Tag: 7, Data: room[:size]}
				one, two := impl.Tagged(f, tag), impl.Tagged(f, tag)
				clear(one.Data)
				_ = append(one.Data, 77, 78, 79)
				if !bytes.Equal(room, filled(size+8)) || !bytes.Equal(two.Data, filled(size)) {
					t.Errorf("Tagged of %d bytes, from %d, with %d shares its data", size, src, tag)
				}
				clear(room)
				if !bytes.Equal(two.Data, filled(size)) || f.Tag != 7 {
					t.Errorf("Tagged of %d bytes, from %d, with %d keeps the data", size, src, tag)
				}
			}
		}
	}
	room := []byte{1, 2, 3}
	_ = append(impl.Tagged(impl.Frame{Src: 1, Data: room[:0]}, 5).Data, 77)
	if !bytes.Equal(room, []byte{1, 2, 3}) {
		t.Errorf("%v", room)
	}
}

func TestFramesAreNotWritten(t *testing.T) {
	for size := range 21 {
		room := filled(30)
		f := impl.Frame{Dst: 5, Src: 6, Tag: 7, Data: room[:size]}
		b := impl.PutFrame(f)
		if !bytes.Equal(b, wantFrame(f)) || !impl.FrameOk(f) || !impl.SameFrame(f, f) {
			t.Errorf("PutFrame(%#v) = %x", f, b)
		}
		clear(b)
		_ = append(b, 77, 78)
		if !bytes.Equal(room, filled(30)) || !bytes.Equal(impl.PutFrame(f), wantFrame(f)) {
			t.Errorf("%x", room)
		}
	}
}

func TestBytesOfFramesAreNotWritten(t *testing.T) {
	whole := wantFrame(impl.Frame{Dst: 300, Src: 6, Tag: 7, Data: []byte("hi")})
	room := append(bytes.Clone(whole), 3, 0, 9, 9)
	kept := bytes.Clone(room)
	for end := range len(room) + 1 {
		f, ok := impl.GetFrame(room[:end])
		_ = append(f.Data, 77, 78)
		if ok != (end == len(whole)) || !bytes.Equal(room, kept) {
			t.Fatalf("GetFrame of %d bytes: %v, %x", end, ok, room)
		}
	}
}

func TestFramesThatAreReadShareNothing(t *testing.T) {
	want := impl.Frame{Dst: 300, Src: 6, Tag: 7, Data: []byte("data")}
	b := wantFrame(want)
	one, _ := impl.GetFrame(b)
	two, _ := impl.GetFrame(b)
	clear(one.Data)
	if !bytes.Equal(b, wantFrame(want)) || !sameFrameParts(two, want) {
		t.Fatalf("%x %#v", b, two)
	}
	clear(b)
	if !sameFrameParts(two, want) {
		t.Errorf("%#v", two)
	}
}

func TestFramesThatAreRefusedLeaveNothingBehind(t *testing.T) {
	right := impl.Frame{Dst: 300, Src: 6, Tag: 7, Data: []byte("hi")}
	for _, wrong := range []impl.Frame{{}, {Src: 10000}, {Dst: 10000, Src: 1}, {Src: 1, Tag: 100}, {Src: 1, Data: filled(21)}} {
		noFrame(t, wrong)
		isFrame(t, right)
		isFrame(t, impl.Frame{Src: 1})
	}
}

package tests

import (
	"bytes"
	"math"
	"testing"

	"loop.example/g00326/impl"
)

// filled makes a body in which no two neighbours are alike, so that a shifted or cut copy is seen.
func filled(size int) []byte {
	body := make([]byte, size)
	for i := range body {
		body[i] = byte(i*7 + 1)
	}
	return body
}

// wantPart is the document's form of a part, written out by hand.
func wantPart(tag int, body []byte) []byte {
	part := []byte{byte(tag)}
	if len(body) >= 128 {
		part = append(part, 129)
	}
	part = append(part, byte(len(body)))
	return append(part, body...)
}

func noPart(t *testing.T, b []byte, at int) {
	t.Helper()
	tag, body, behind, ok := impl.GetTlv(b, at)
	if tag != 0 || len(body) != 0 || behind != 0 || ok {
		t.Errorf("GetTlv(%x, %d) = %d, %x, %d, %v; want nothing", b, at, tag, body, behind, ok)
	}
}

func isPart(t *testing.T, b []byte, at int, tag int, body []byte, behind int) {
	t.Helper()
	gotTag, gotBody, gotBehind, ok := impl.GetTlv(b, at)
	if !ok || gotTag != tag || !bytes.Equal(gotBody, body) || gotBehind != behind {
		t.Errorf("GetTlv(%x, %d) = %d, %x, %d, %v; want %d, %x, %d, true", b, at, gotTag, gotBody, gotBehind, ok, tag, body, behind)
	}
}

func TestMaxBody(t *testing.T) {
	if impl.MaxBody != 250 {
		t.Errorf("MaxBody = %d", impl.MaxBody)
	}
}

func TestPartsComeBack(t *testing.T) {
	head := []byte{9, 129, 0}
	for size := 0; size <= 250; size++ {
		body := filled(size)
		for _, tag := range []int{0, 1, 48, 127, 128, 129, 254, 255} {
			want := append(bytes.Clone(head), wantPart(tag, body)...)
			b := impl.PutTlv(head, tag, body)
			if !bytes.Equal(b, want) {
				t.Fatalf("PutTlv of tag %d, %d bytes: %x; want %x", tag, size, b, want)
			}
			isPart(t, b, len(head), tag, body, len(b))
		}
	}
}

func TestEveryTagComesBack(t *testing.T) {
	for tag := 0; tag <= 255; tag++ {
		b := impl.PutTlv(nil, tag, []byte{5, 6})
		if !bytes.Equal(b, []byte{byte(tag), 2, 5, 6}) {
			t.Errorf("tag %d: %x", tag, b)
		}
		isPart(t, b, 0, tag, []byte{5, 6}, 4)
	}
}

func TestLengthsAtTheirEdges(t *testing.T) {
	for size, head := range map[int]string{0: "\x04\x00", 1: "\x04\x01", 127: "\x04\x7f", 128: "\x04\x81\x80", 129: "\x04\x81\x81", 250: "\x04\x81\xfa"} {
		body := filled(size)
		b := impl.PutTlv(nil, 4, body)
		if string(b) != head+string(body) {
			t.Errorf("%d bytes: %x", size, b)
		}
	}
}

func TestRefusedPartsLeaveB(t *testing.T) {
	heads := [][]byte{nil, {}, {7}, {7, 8, 9}}
	for _, head := range heads {
		for _, tag := range []int{-1, -255, -256, 256, 257, 511, 512, math.MinInt, math.MaxInt} {
			if b := impl.PutTlv(head, tag, []byte("ab")); !bytes.Equal(b, head) {
				t.Errorf("tag %d: %x; want %x", tag, b, head)
			}
		}
		for _, size := range []int{251, 252, 255, 256, 257, 506, 512, 70000} {
			if b := impl.PutTlv(head, 4, make([]byte, size)); !bytes.Equal(b, head) {
				t.Errorf("%d bytes: %x; want %x", size, b, head)
			}
		}
	}
}

func TestPartsBehindEachOther(t *testing.T) {
	bodies := [][]byte{filled(3), nil, filled(128), filled(250), filled(127)}
	var b []byte
	for tag, body := range bodies {
		b = impl.PutTlv(b, tag, body)
	}
	at := 0
	for want, body := range bodies {
		behind := at + len(wantPart(want, body))
		isPart(t, b, at, want, body, behind)
		at = behind
	}
	if at != len(b) {
		t.Errorf("%d bytes were read of %d", at, len(b))
	}
	noPart(t, b, at)
}

func TestPlacesThatAreNone(t *testing.T) {
	lists := [][]byte{nil, {}, {4, 0}, {4, 1, 9}, wantPart(4, filled(200))}
	for _, b := range lists {
		for _, at := range []int{math.MinInt, -3, -2, -1, len(b), len(b) + 1, len(b) + 2, math.MaxInt - 2, math.MaxInt - 1, math.MaxInt} {
			noPart(t, b, at)
		}
	}
}

func TestPartsThatAreNotWhole(t *testing.T) {
	for _, size := range []int{0, 1, 2, 127, 128, 250} {
		whole := append([]byte{3}, wantPart(4, filled(size))...)
		for end := 1; end < len(whole); end++ {
			// The rest lies behind the list's length, where it must not be read.
			noPart(t, whole[:end], 1)
		}
		isPart(t, whole, 1, 4, filled(size), len(whole))
	}
}

func TestEveryFormOfALength(t *testing.T) {
	for first := 0; first <= 255; first++ {
		for second := 0; second <= 255; second++ {
			b := append([]byte{1, 4, byte(first), byte(second)}, filled(300)...)
			switch {
			case first < 128:
				isPart(t, b, 1, 4, b[3:3+first], 3+first)
			case first == 129 && second >= 128 && second <= 250:
				isPart(t, b, 1, 4, b[4:4+second], 4+second)
			default:
				noPart(t, b, 1)
			}
		}
	}
}

func TestLengthAloneIsNoPart(t *testing.T) {
	for first := 1; first <= 255; first++ {
		noPart(t, []byte{4, byte(first)}, 0)
	}
	isPart(t, []byte{4, 0}, 0, 4, nil, 2)
}

func TestPutTlvWritesIntoNothing(t *testing.T) {
	room := []byte{1, 2, 3, 4, 5, 6, 7, 8, 9, 10}
	body := []byte{21, 22, 23, 24}
	for _, tag := range []int{4, 256} {
		b := impl.PutTlv(room[:2], tag, body[:2])
		for i := range b {
			b[i] = 99
		}
		_ = append(b, 98, 97)
		if !bytes.Equal(room, []byte{1, 2, 3, 4, 5, 6, 7, 8, 9, 10}) || !bytes.Equal(body, []byte{21, 22, 23, 24}) {
			t.Errorf("tag %d: %v %v", tag, room, body)
		}
	}
}

func TestGetTlvWritesIntoNothing(t *testing.T) {
	b := []byte{4, 2, 7, 8, 5, 0}
	_, body, _, _ := impl.GetTlv(b, 0)
	body[0], body[1] = 99, 98
	_ = append(body, 97)
	_, none, _, _ := impl.GetTlv(b, 4)
	_ = append(none, 96)
	if !bytes.Equal(b, []byte{4, 2, 7, 8, 5, 0}) {
		t.Errorf("%v", b)
	}
}

// wantInt is told by the rule itself: the fewest bytes whose range has n.
func wantInt(n int) []byte {
	for size := 1; ; size++ {
		half := 1 << (8*size - 1)
		if n < -half || n >= half {
			continue
		}
		out := make([]byte, size)
		for i := range out {
			out[i] = byte(n >> (8 * (size - 1 - i)))
		}
		return out
	}
}

func isInt(t *testing.T, n int) {
	t.Helper()
	b := impl.PutInt(n)
	if !bytes.Equal(b, wantInt(n)) {
		t.Errorf("PutInt(%d) = %x; want %x", n, b, wantInt(n))
	}
	if back, ok := impl.GetInt(b); back != n || !ok {
		t.Errorf("GetInt(%x) = %d, %v; want %d, true", b, back, ok, n)
	}
}

func noInt(t *testing.T, b []byte) {
	t.Helper()
	if n, ok := impl.GetInt(b); n != 0 || ok {
		t.Errorf("GetInt(%x) = %d, %v; want 0, false", b, n, ok)
	}
}

func TestNumbersAsWrittenOut(t *testing.T) {
	for n, want := range map[int]string{
		0: "\x00", 1: "\x01", 127: "\x7f", 128: "\x00\x80", 255: "\x00\xff", 256: "\x01\x00",
		32767: "\x7f\xff", 32768: "\x00\x80\x00", 8388607: "\x7f\xff\xff", 8388608: "\x00\x80\x00\x00",
		2147483647: "\x7f\xff\xff\xff",
		-1:         "\xff", -128: "\x80", -129: "\xff\x7f", -256: "\xff\x00", -32768: "\x80\x00", -32769: "\xff\x7f\xff",
		-8388608: "\x80\x00\x00", -8388609: "\xff\x7f\xff\xff", -2147483648: "\x80\x00\x00\x00",
	} {
		if b := impl.PutInt(n); string(b) != want {
			t.Errorf("PutInt(%d) = %x; want %x", n, b, want)
		}
		if back, ok := impl.GetInt([]byte(want)); back != n || !ok {
			t.Errorf("GetInt(%x) = %d, %v; want %d, true", want, back, ok, n)
		}
	}
}

func TestNumbersComeBack(t *testing.T) {
	for n := -70000; n <= 70000; n++ {
		isInt(t, n)
	}
	for bit := 0; bit < 31; bit++ {
		for near := -3; near <= 3; near++ {
			isInt(t, min(1<<bit+near, math.MaxInt32))
			isInt(t, max(-1<<bit+near, math.MinInt32))
		}
	}
	for near := 0; near <= 3; near++ {
		isInt(t, math.MaxInt32-near)
		isInt(t, math.MinInt32+near)
	}
	for n := math.MinInt32; n <= math.MaxInt32; n += 99991 {
		isInt(t, n)
	}
}

func TestNumbersPastTheEnds(t *testing.T) {
	for _, n := range []int{math.MaxInt32 + 1, math.MaxInt32 + 2, 1 << 32, 1<<32 + 5, 1 << 40, math.MaxInt - 1, math.MaxInt} {
		if b := impl.PutInt(n); string(b) != "\x7f\xff\xff\xff" {
			t.Errorf("PutInt(%d) = %x", n, b)
		}
	}
	for _, n := range []int{math.MinInt32 - 1, math.MinInt32 - 2, -1 << 32, -1<<32 - 5, -1 << 40, math.MinInt + 1, math.MinInt} {
		if b := impl.PutInt(n); string(b) != "\x80\x00\x00\x00" {
			t.Errorf("PutInt(%d) = %x", n, b)
		}
	}
}

// Each number has one form: the bytes that are read are just those that are put.
func checkForm(t *testing.T, b []byte) {
	t.Helper()
	first := int8(b[0])
	if len(b) > 1 && (first == 0 && b[1] < 128 || first == -1 && b[1] >= 128) {
		noInt(t, b)
		return
	}
	n, ok := impl.GetInt(b)
	if !ok || !bytes.Equal(wantInt(n), b) {
		t.Errorf("GetInt(%x) = %d, %v", b, n, ok)
	}
}

func TestEveryFormOfANumber(t *testing.T) {
	rest := [][]byte{{}, {0}, {127}, {128}, {255}, {0, 0}, {255, 255}, {1, 128}, {128, 1}}
	for x := 0; x <= 255; x++ {
		checkForm(t, []byte{byte(x)})
		for y := 0; y <= 255; y++ {
			for _, tail := range rest {
				checkForm(t, append([]byte{byte(x), byte(y)}, tail...))
			}
		}
	}
}

func TestBytesThatAreNoNumber(t *testing.T) {
	noInt(t, nil)
	noInt(t, []byte{})
	for _, s := range []string{
		"\x00\x00", "\x00\x01", "\x00\x7f", "\xff\x80", "\xff\xff", "\x00\x00\x80", "\xff\xff\x7f", "\x00\x00\x00\x00", "\x00\x7f\xff\xff", "\xff\x80\x00\x00",
		"\x00\x00\x00\x00\x01", "\x01\x00\x00\x00\x00", "\x00\x80\x00\x00\x00", "\xff\x7f\xff\xff\xff", "\x7f\xff\xff\xff\xff", "\x80\x00\x00\x00\x00",
		"\x00\x80\x00\x00\x00\x00\x00\x00", "\x01\x02\x03\x04\x05\x06\x07\x08\x09",
	} {
		noInt(t, []byte(s))
	}
}

func TestNumbersStayWithinTheirBytes(t *testing.T) {
	room := []byte{1, 2, 3, 4, 5}
	if n, ok := impl.GetInt(room[:2]); n != 258 || !ok {
		t.Errorf("%d %v", n, ok)
	}
	noInt(t, room[:0])
	if !bytes.Equal(room, []byte{1, 2, 3, 4, 5}) {
		t.Errorf("%v", room)
	}
	one := impl.PutInt(300)
	one[0], one[1] = 9, 9
	if two := impl.PutInt(300); !bytes.Equal(two, []byte{1, 44}) {
		t.Errorf("%x", two)
	}
}

func TestNumbersWithinParts(t *testing.T) {
	for _, n := range []int{0, -1, 127, 128, -129, math.MaxInt32, math.MinInt32} {
		_, body, _, _ := impl.GetTlv(impl.PutTlv([]byte{1}, 2, impl.PutInt(n)), 1)
		if back, ok := impl.GetInt(body); back != n || !ok {
			t.Errorf("%d: %d %v", n, back, ok)
		}
	}
}

package tests

import (
	"bytes"
	"math"
	"slices"
	"strings"
	"testing"

	"loop.example/g00326/impl"
)

var (
	pduKinds   = []int{160, 161, 162, 163, 165}
	plainKinds = []int{160, 161, 163}
	pairKinds  = []int{162, 165}
)

// sameBindParts is told part by part, not by the program's own SameBinds.
func sameBindParts(a []impl.Bind, b []impl.Bind) bool {
	return slices.EqualFunc(a, b, func(x impl.Bind, y impl.Bind) bool {
		return slices.Equal(x.O, y.O) && sameParts(x.V, y.V)
	})
}

func samePdu(a impl.Pdu, b impl.Pdu) bool {
	return a.Kind == b.Kind && a.Id == b.Id && a.A == b.A && a.B == b.B && sameBindParts(a.Binds, b.Binds)
}

// wantVal is the document's form of a right value, told apart from the program's own PutVal.
func wantVal(v impl.Val) []byte {
	switch v.K {
	case 2:
		return wantPart(2, wantInt(v.N))
	case 4:
		return wantPart(4, []byte(v.S))
	case 6:
		return wantPart(6, wantOidBytes(v.O))
	}
	return wantPart(v.K, nil)
}

func wantBind(x impl.Bind) []byte {
	return wantPart(48, append(wantPart(6, wantOidBytes(x.O)), wantVal(x.V)...))
}

func wantBinds(l []impl.Bind) []byte {
	var all []byte
	for _, x := range l {
		all = append(all, wantBind(x)...)
	}
	return all
}

func number(n int) []byte {
	return wantPart(2, wantInt(n))
}

// pduOf lays parts into an outer one of this kind, whatever they are.
func pduOf(kind int, parts ...[]byte) []byte {
	return wantPart(kind, bytes.Join(parts, nil))
}

func wantPdu(p impl.Pdu) []byte {
	return pduOf(p.Kind, number(p.Id), number(p.A), number(p.B), wantPart(48, wantBinds(p.Binds)))
}

// isPdu wants p to have just the document's bytes, and to come back of them, every field.
func isPdu(t *testing.T, p impl.Pdu) {
	t.Helper()
	if !impl.PduOk(p) {
		t.Errorf("PduOk(%#v) = false", p)
	}
	want := wantPdu(p)
	if b := impl.PutPdu(p); !bytes.Equal(b, want) {
		t.Errorf("PutPdu(%#v) = %x; want %x", p, b, want)
	}
	back, ok := impl.GetPdu(want)
	if !ok || !samePdu(back, p) || !impl.SameBinds(back.Binds, p.Binds) {
		t.Errorf("GetPdu(%x) = %#v, %v; want %#v, true", want, back, ok, p)
	}
}

func noPdu(t *testing.T, p impl.Pdu) {
	t.Helper()
	if impl.PduOk(p) {
		t.Errorf("PduOk(%#v) = true", p)
	}
	noPutPdu(t, p)
}

func noPutPdu(t *testing.T, p impl.Pdu) {
	t.Helper()
	if b := impl.PutPdu(p); len(b) != 0 {
		t.Errorf("PutPdu(%#v) = %x; want nothing", p, b)
	}
}

func noPduBytes(t *testing.T, b []byte) {
	t.Helper()
	if p, ok := impl.GetPdu(b); ok || !samePdu(p, impl.Pdu{}) {
		t.Errorf("GetPdu(%x) = %#v, %v; want nothing", b, p, ok)
	}
}

func nullBind(numbers ...int) impl.Bind {
	return impl.Bind{O: numbers, V: impl.Val{K: 5}}
}

// textBind has a form of 7 bytes and the text's.
func textBind(size int) impl.Bind {
	return impl.Bind{O: []int{1}, V: impl.Val{K: 4, S: strings.Repeat("t", size)}}
}

func nullBinds(count int) []impl.Bind {
	var l []impl.Bind
	for i := range count {
		l = append(l, nullBind(1, 3, i))
	}
	return l
}

// unlikeBinds has a bind for each kind of value.
func unlikeBinds() []impl.Bind {
	return []impl.Bind{
		{O: []int{1, 3}, V: impl.Val{K: 5}},
		{O: []int{1, 3, 128, 100000}, V: impl.Val{K: 2, N: -129}},
		{O: []int{0}, V: impl.Val{K: 4, S: "a\x00\xffb"}},
		{O: []int{1, 2, 3, 4, 5, 6, 7, 8, 9, 10}, V: impl.Val{K: 6, O: []int{1, 16384}}},
		{O: []int{9}, V: impl.Val{K: 128}},
		{O: []int{9}, V: impl.Val{K: 130}},
	}
}

// bindsOfBytes makes 10 binds whose forms have so many bytes altogether.
func bindsOfBytes(t *testing.T, size int) []impl.Bind {
	t.Helper()
	left := size - 70
	var l []impl.Bind
	for range 10 {
		take := min(max(left, 0), 20)
		l = append(l, textBind(take))
		left -= take
	}
	if len(wantBinds(l)) != size {
		t.Fatalf("binds have %d bytes; want %d", len(wantBinds(l)), size)
	}
	return l
}

func TestRequestConstants(t *testing.T) {
	got := []int{impl.RqGet, impl.RqNext, impl.RqRep, impl.RqSet, impl.RqBulk}
	if !slices.Equal(got, pduKinds) || impl.MaxBinds != 10 {
		t.Errorf("%v %d", got, impl.MaxBinds)
	}
}

func TestRequestsAsWrittenOut(t *testing.T) {
	for form, p := range map[string]impl.Pdu{
		"\xa0\x0b\x02\x01\x00\x02\x01\x00\x02\x01\x00\x30\x00":                                                                  {Kind: 160},
		"\xa1\x0c\x02\x02\xff\x7f\x02\x01\x00\x02\x01\x00\x30\x00":                                                              {Kind: 161, Id: -129},
		"\xa2\x14\x02\x01\x07\x02\x01\x03\x02\x01\x01\x30\x09\x30\x07\x06\x02\x01\x03\x02\x01\x05":                              {Kind: 162, Id: 7, A: 3, B: 1, Binds: []impl.Bind{{O: []int{1, 3}, V: impl.Val{K: 2, N: 5}}}},
		"\xa3\x1c\x02\x01\x01\x02\x01\x00\x02\x01\x00\x30\x11\x30\x06\x06\x01\x05\x04\x01z\x30\x07\x06\x03\x01\x81\x00\x82\x00": {Kind: 163, Id: 1, Binds: []impl.Bind{{O: []int{5}, V: impl.Val{K: 4, S: "z"}}, {O: []int{1, 128}, V: impl.Val{K: 130}}}},
		"\xa5\x0d\x02\x01\x00\x02\x02\x03\xe8\x02\x02\x00\x80\x30\x00":                                                          {Kind: 165, A: 1000, B: 128},
	} {
		if b := impl.PutPdu(p); string(b) != form {
			t.Errorf("PutPdu(%#v) = %x; want %x", p, b, form)
		}
		if back, ok := impl.GetPdu([]byte(form)); !ok || !samePdu(back, p) {
			t.Errorf("GetPdu(%x) = %#v, %v; want %#v", form, back, ok, p)
		}
	}
}

func TestRequestsComeBack(t *testing.T) {
	lists := [][]impl.Bind{nil, {}, {nullBind(1, 3)}, {textBind(20)}, unlikeBinds()[:3], unlikeBinds(), nullBinds(9), nullBinds(10)}
	for i := range unlikeBinds() {
		lists = append(lists, unlikeBinds()[i:i+1])
	}
	for _, binds := range lists {
		for _, kind := range pduKinds {
			for _, id := range []int{0, 1, -1, 300, 1000000} {
				isPdu(t, impl.Pdu{Kind: kind, Id: id, Binds: binds})
			}
		}
		for _, kind := range pairKinds {
			isPdu(t, impl.Pdu{Kind: kind, Id: 5, A: 3, B: 7, Binds: binds})
		}
	}
}

func TestBindsStayInTheirOrder(t *testing.T) {
	// Names need not rise, and may be alike.
	isPdu(t, impl.Pdu{Kind: 163, Binds: []impl.Bind{nullBind(9), nullBind(1, 3), nullBind(1), nullBind(1), textBind(2), nullBind(0)}})
}

func TestIdsAtTheirEnds(t *testing.T) {
	for _, kind := range pduKinds {
		for _, id := range []int{math.MinInt32, math.MinInt32 + 1, -32769, -32768, -129, -128, 127, 128, 255, 256, 32767, 32768, math.MaxInt32 - 1, math.MaxInt32} {
			isPdu(t, impl.Pdu{Kind: kind, Id: id, Binds: unlikeBinds()[:2]})
		}
		for _, id := range []int{math.MinInt32 - 1, math.MaxInt32 + 1, 1 << 32, -1 << 32, 1<<32 + 5, math.MinInt, math.MaxInt} {
			noPdu(t, impl.Pdu{Kind: kind, Id: id})
		}
	}
}

func TestPairsThatAreNamed(t *testing.T) {
	right := []int{0, 1, 127, 128, 255, 256, 999, 1000}
	wrong := []int{1001, 1002, -1, -2, -1000, math.MinInt32, math.MaxInt32, 1 << 32, math.MinInt, math.MaxInt}
	for _, kind := range pairKinds {
		for _, a := range right {
			for _, b := range right {
				isPdu(t, impl.Pdu{Kind: kind, Id: 9, A: a, B: b, Binds: nullBinds(1)})
			}
			for _, b := range wrong {
				noPdu(t, impl.Pdu{Kind: kind, A: a, B: b})
				noPdu(t, impl.Pdu{Kind: kind, A: b, B: a})
				noPdu(t, impl.Pdu{Kind: kind, A: b, B: b})
			}
		}
	}
}

func TestPairsThatAreNotNamed(t *testing.T) {
	for _, kind := range plainKinds {
		isPdu(t, impl.Pdu{Kind: kind, Id: 9, Binds: nullBinds(1)})
		for _, n := range []int{1, 2, 999, 1000, 1001, -1, 256, 1 << 32, math.MinInt, math.MaxInt} {
			noPdu(t, impl.Pdu{Kind: kind, A: n})
			noPdu(t, impl.Pdu{Kind: kind, B: n})
			noPdu(t, impl.Pdu{Kind: kind, A: n, B: n, Binds: nullBinds(1)})
			noPdu(t, impl.Pdu{Kind: kind, A: n, B: -n})
		}
	}
}

func TestKindsOfRequestsThatThereAreNot(t *testing.T) {
	others := []int{math.MinInt, math.MaxInt, 1<<32 + 160}
	for kind := -300; kind <= 600; kind++ {
		if !slices.Contains(pduKinds, kind) {
			others = append(others, kind)
		}
	}
	for _, kind := range others {
		noPdu(t, impl.Pdu{Kind: kind})
		noPdu(t, impl.Pdu{Kind: kind, Id: 1, A: 1, B: 1, Binds: nullBinds(1)})
		if kind >= 0 && kind <= 255 {
			noPduBytes(t, wantPdu(impl.Pdu{Kind: kind}))
			noPduBytes(t, wantPdu(impl.Pdu{Kind: kind, Id: 1, Binds: nullBinds(1)}))
		}
	}
}

func TestCountsOfBinds(t *testing.T) {
	for _, kind := range pduKinds {
		for count := 0; count <= 10; count++ {
			isPdu(t, impl.Pdu{Kind: kind, Binds: nullBinds(count)})
		}
		for _, count := range []int{11, 12, 18, 300} {
			noPdu(t, impl.Pdu{Kind: kind, Binds: nullBinds(count)})
		}
		// Bytes of 11 binds are not too many: it is the count that is refused.
		for _, count := range []int{11, 12, 18} {
			b := wantPdu(impl.Pdu{Kind: kind, Binds: slices.Repeat([]impl.Bind{nullBind(1)}, count)})
			if len(b) > 250 {
				t.Fatalf("%d bytes", len(b))
			}
			noPduBytes(t, b)
		}
	}
}

func TestBindsThatAreNone(t *testing.T) {
	wrong := []impl.Bind{
		{},
		{V: impl.Val{K: 5}},
		{O: []int{}, V: impl.Val{K: 5}},
		nullBind(-1),
		nullBind(1, 100001),
		nullBind(make([]int, 11)...),
		{O: []int{1}},
		{O: []int{1}, V: impl.Val{K: 7}},
		{O: []int{1}, V: impl.Val{K: 5, N: 1}},
		{O: []int{1}, V: impl.Val{K: 2, N: math.MaxInt32 + 1}},
		{O: []int{1}, V: impl.Val{K: 4, S: strings.Repeat("a", 21)}},
		{O: []int{1}, V: impl.Val{K: 6}},
		{O: []int{1}, V: impl.Val{K: 130, S: "a"}},
	}
	for _, kind := range pduKinds {
		for _, x := range wrong {
			noPdu(t, impl.Pdu{Kind: kind, Binds: []impl.Bind{x}})
			noPdu(t, impl.Pdu{Kind: kind, Binds: []impl.Bind{x, nullBind(1)}})
			noPdu(t, impl.Pdu{Kind: kind, Binds: []impl.Bind{nullBind(1), x}})
			noPdu(t, impl.Pdu{Kind: kind, Binds: append(nullBinds(9), x)})
		}
	}
}

func TestWholesAtTheirMostBytes(t *testing.T) {
	for _, id := range []int{0, 300, 70000, math.MaxInt32} {
		heads := len(number(id)) + 3 + 3
		// 3 bytes are the tag and the length of all binds.
		most := 250 - heads - 3
		for _, kind := range pduKinds {
			whole := impl.Pdu{Kind: kind, Id: id, Binds: bindsOfBytes(t, most)}
			if len(wantPdu(whole)) != 253 {
				t.Fatalf("%d bytes", len(wantPdu(whole)))
			}
			isPdu(t, whole)
			isPdu(t, impl.Pdu{Kind: kind, Id: id, Binds: bindsOfBytes(t, most-1)})
			tooMany := impl.Pdu{Kind: kind, Id: id, Binds: bindsOfBytes(t, most+1)}
			if !impl.PduOk(tooMany) {
				t.Errorf("PduOk(%#v) = false: its bytes are not asked", tooMany)
			}
			noPutPdu(t, tooMany)
			noPduBytes(t, wantPdu(tooMany))
		}
	}
	// A and B of two bytes make a whole too large that was not.
	whole := impl.Pdu{Kind: 162, A: 1000, B: 1000, Binds: bindsOfBytes(t, 236)}
	isPdu(t, whole)
	whole.Id = 128
	noPutPdu(t, whole)
	noPduBytes(t, wantPdu(whole))
}

func TestBindsAtTheirMostBytes(t *testing.T) {
	// What has all that a bind may have is far from too large.
	widest := impl.Bind{O: slices.Repeat([]int{100000}, 10), V: impl.Val{K: 6, O: slices.Repeat([]int{100000}, 10)}}
	if len(wantBind(widest)) != 66 {
		t.Fatalf("%d bytes", len(wantBind(widest)))
	}
	for count := 1; count <= 3; count++ {
		isPdu(t, impl.Pdu{Kind: 163, Id: 1, Binds: slices.Repeat([]impl.Bind{widest}, count)})
	}
	lists := [][]impl.Bind{slices.Repeat([]impl.Bind{widest}, 4), slices.Repeat([]impl.Bind{widest}, 10)}
	for size := 239; size <= 270; size++ {
		// At 250 the binds themselves would do, but never the whole; at 251 not even they.
		lists = append(lists, bindsOfBytes(t, size))
	}
	for _, l := range lists {
		for _, kind := range pduKinds {
			p := impl.Pdu{Kind: kind, Binds: l}
			if !impl.PduOk(p) {
				t.Errorf("PduOk(%#v) = false: its bytes are not asked", p)
			}
			noPutPdu(t, p)
		}
	}
}

func TestLengthsWhereTheirFormTurns(t *testing.T) {
	for size := 70; size <= 238; size++ {
		isPdu(t, impl.Pdu{Kind: 160, Binds: bindsOfBytes(t, size)})
	}
}

func TestRequestsThatAreCut(t *testing.T) {
	for _, p := range []impl.Pdu{
		{Kind: 160},
		{Kind: 165, Id: 300, A: 1, B: 2, Binds: []impl.Bind{nullBind(1, 3)}},
		{Kind: 162, Id: math.MinInt32, A: 1000, B: 1000, Binds: unlikeBinds()},
		{Kind: 163, Binds: bindsOfBytes(t, 238)},
	} {
		whole := wantPdu(p)
		for end := range whole {
			// What lies behind the list's length is not read.
			noPduBytes(t, whole[:end])
			noPduBytes(t, bytes.Clone(whole[:end]))
		}
	}
	noPduBytes(t, nil)
}

// parts of a right request of one bind, of which each test turns one.
var (
	zeroPart  = []byte("\x02\x01\x00")
	emptyPart = []byte("\x30\x00")
	bindPart  = []byte("\x30\x05\x06\x01\x07\x05\x00")
	bindsPart = wantPart(48, bindPart)
)

func TestRequestsCutWithinWholeParts(t *testing.T) {
	// The outer length is right, what is within is not whole.
	body := bytes.Join([][]byte{number(300), zeroPart, zeroPart, bindsPart}, nil)
	for end := range body {
		noPduBytes(t, wantPart(160, body[:end]))
	}
	binds := bytes.Join([][]byte{bindPart, wantBind(textBind(3))}, nil)
	for end := range binds {
		if end != 0 && end != len(bindPart) {
			noPduBytes(t, pduOf(160, zeroPart, zeroPart, zeroPart, wantPart(48, binds[:end])))
		}
	}
	bind := []byte("\x06\x02\x01\x07\x04\x03abc")
	for end := range bind {
		noPduBytes(t, pduOf(160, zeroPart, zeroPart, zeroPart, wantPart(48, wantPart(48, bind[:end]))))
	}
}

func TestMoreBehindRequests(t *testing.T) {
	for _, more := range []string{"\x00", "\x05\x00", "\x02\x01\x00", "\x30\x00", "\x06\x01\x01", "\xa0", string(bindPart), string(wantPdu(impl.Pdu{Kind: 160}))} {
		rest := []byte(more)
		for _, kind := range pduKinds {
			for _, p := range []impl.Pdu{{Kind: kind}, {Kind: kind, Id: 3, Binds: nullBinds(2)}} {
				noPduBytes(t, append(wantPdu(p), rest...))
			}
			noPduBytes(t, pduOf(kind, zeroPart, zeroPart, zeroPart, emptyPart, rest))
			noPduBytes(t, pduOf(kind, zeroPart, zeroPart, zeroPart, bindsPart, rest))
			if more != string(bindPart) {
				noPduBytes(t, pduOf(kind, zeroPart, zeroPart, zeroPart, wantPart(48, append(bytes.Clone(bindPart), rest...))))
			}
			noPduBytes(t, pduOf(kind, zeroPart, zeroPart, zeroPart, wantPart(48, wantPart(48, append([]byte("\x06\x01\x07\x05\x00"), rest...)))))
		}
	}
}

func TestWhatStandsAheadOfARequest(t *testing.T) {
	for _, ahead := range []string{"\x00", "\x05\x00", "\x30"} {
		noPduBytes(t, append([]byte(ahead), wantPdu(impl.Pdu{Kind: 160})...))
	}
	// A request within a request is none.
	noPduBytes(t, wantPart(160, wantPdu(impl.Pdu{Kind: 160})))
}

func TestPartsWithAnotherTag(t *testing.T) {
	right := [][]byte{zeroPart, zeroPart, zeroPart, bindsPart}
	for place := range right {
		for tag := 0; tag <= 255; tag++ {
			parts := slices.Clone(right)
			parts[place] = bytes.Clone(parts[place])
			parts[place][0] = byte(tag)
			if tag != int(right[place][0]) {
				noPduBytes(t, pduOf(165, parts...))
			}
		}
	}
	for tag := 0; tag <= 255; tag++ {
		bind := bytes.Clone(bindPart)
		if tag != 48 {
			bind[0] = byte(tag)
			noPduBytes(t, pduOf(165, zeroPart, zeroPart, zeroPart, wantPart(48, bind)))
		}
		bind[0], bind[2] = 48, byte(tag)
		if tag != 6 {
			noPduBytes(t, pduOf(165, zeroPart, zeroPart, zeroPart, wantPart(48, bind)))
		}
		bind[2], bind[5] = 6, byte(tag)
		if !slices.Contains([]int{4, 5, 128, 130}, tag) {
			noPduBytes(t, pduOf(165, zeroPart, zeroPart, zeroPart, wantPart(48, bind)))
		}
	}
}

func TestPartsThatLack(t *testing.T) {
	right := [][]byte{zeroPart, zeroPart, zeroPart, bindsPart}
	for _, kind := range pduKinds {
		for mask := range 15 {
			var parts [][]byte
			for i, part := range right {
				if mask>>i&1 == 1 {
					parts = append(parts, part)
				}
			}
			noPduBytes(t, pduOf(kind, parts...))
		}
		noPduBytes(t, pduOf(kind, bindsPart, zeroPart, zeroPart, zeroPart))
		noPduBytes(t, pduOf(kind, zeroPart, zeroPart, bindsPart, zeroPart))
		noPduBytes(t, pduOf(kind, zeroPart, zeroPart, zeroPart, bindPart))
		noPduBytes(t, pduOf(kind, zeroPart, zeroPart, zeroPart, zeroPart, bindsPart))
	}
	for _, bind := range []string{"", "\x06\x01\x07", "\x05\x00", "\x05\x00\x06\x01\x07", "\x06\x01\x07\x06\x01\x07\x05\x00", "\x06\x01\x07\x05\x00\x05\x00"} {
		noPduBytes(t, pduOf(160, zeroPart, zeroPart, zeroPart, wantPart(48, wantPart(48, []byte(bind)))))
	}
}

func TestNumbersOfRequestsWhoseBytesAreNone(t *testing.T) {
	for _, bad := range []string{"", "\x00\x00", "\x00\x7f", "\xff\x80", "\xff\xff", "\x00\x00\x00\x01", "\x01\x02\x03\x04\x05", "\x00\x00\x00\x00\x00", strings.Repeat("\x01", 130)} {
		part := wantPart(2, []byte(bad))
		noPduBytes(t, pduOf(165, part, zeroPart, zeroPart, bindsPart))
		noPduBytes(t, pduOf(165, zeroPart, part, zeroPart, bindsPart))
		noPduBytes(t, pduOf(165, zeroPart, zeroPart, part, bindsPart))
		noPduBytes(t, pduOf(165, zeroPart, zeroPart, zeroPart, wantPart(48, wantPart(48, append([]byte("\x06\x01\x07"), part...)))))
	}
}

func TestNamesAndValuesOfBindsWhoseBytesAreNone(t *testing.T) {
	for _, bad := range []string{"", "\x80\x01", "\x81", "\x86\x8d\x21", strings.Repeat("\x01", 11), strings.Repeat("\x01", 130)} {
		name := wantPart(6, []byte(bad))
		noPduBytes(t, pduOf(163, zeroPart, zeroPart, zeroPart, wantPart(48, wantPart(48, append(bytes.Clone(name), 5, 0)))))
		noPduBytes(t, pduOf(163, zeroPart, zeroPart, zeroPart, wantPart(48, wantPart(48, append([]byte("\x06\x01\x07"), name...)))))
	}
	for _, bad := range []string{"\x05\x01a", "\x07\x00", "\x80\x01\x00", "\x82\x01\x00", "\x30\x00", string(wantPart(4, filled(21)))} {
		noPduBytes(t, pduOf(163, zeroPart, zeroPart, zeroPart, wantPart(48, wantPart(48, append([]byte("\x06\x01\x07"), bad...)))))
	}
}

func TestBytesThatReadAsNoRightRequest(t *testing.T) {
	for _, kind := range plainKinds {
		for _, n := range []int{1, -1, 1000, 1001, math.MaxInt32, math.MinInt32} {
			noPduBytes(t, wantPdu(impl.Pdu{Kind: kind, A: n}))
			noPduBytes(t, wantPdu(impl.Pdu{Kind: kind, B: n}))
			noPduBytes(t, wantPdu(impl.Pdu{Kind: kind, A: n, B: n, Binds: nullBinds(1)}))
		}
	}
	for _, kind := range pairKinds {
		for _, n := range []int{-1, -128, -1000, 1001, 1002, 65536, math.MaxInt32, math.MinInt32} {
			noPduBytes(t, wantPdu(impl.Pdu{Kind: kind, A: n}))
			noPduBytes(t, wantPdu(impl.Pdu{Kind: kind, B: n}))
			noPduBytes(t, wantPdu(impl.Pdu{Kind: kind, A: n, B: 1, Binds: nullBinds(1)}))
		}
	}
}

func TestLengthsOfRequestsAreSaidInOneForm(t *testing.T) {
	for _, s := range []string{
		"\xa0\x81\x0b\x02\x01\x00\x02\x01\x00\x02\x01\x00\x30\x00",
		"\xa0\x0c\x02\x81\x01\x00\x02\x01\x00\x02\x01\x00\x30\x00",
		"\xa0\x0c\x02\x01\x00\x02\x01\x00\x02\x01\x00\x30\x81\x00",
		"\xa0\x80\x02\x01\x00\x02\x01\x00\x02\x01\x00\x30\x00\x00\x00",
		"\xa0\x13\x02\x01\x00\x02\x01\x00\x02\x01\x00\x30\x08\x30\x81\x05\x06\x01\x07\x05\x00",
		"\xa0\x13\x02\x01\x00\x02\x01\x00\x02\x01\x00\x30\x08\x30\x06\x06\x81\x01\x07\x05\x00",
		"\xa0\x13\x02\x01\x00\x02\x01\x00\x02\x01\x00\x30\x08\x30\x06\x06\x01\x07\x05\x81\x00",
	} {
		noPduBytes(t, []byte(s))
	}
	// Lengths of MaxBody and above, of the whole, of all binds and of a bind: within, even MaxBody is never whole.
	for size := 250; size <= 255; size++ {
		noPduBytes(t, append([]byte{160, 129, byte(size)}, make([]byte, size)...))
		noPduBytes(t, pduOf(160, zeroPart, zeroPart, zeroPart, append([]byte{48, 129, byte(size)}, make([]byte, 230)...)))
		noPduBytes(t, pduOf(160, zeroPart, zeroPart, zeroPart, wantPart(48, append([]byte{48, 129, byte(size)}, make([]byte, 230)...))))
	}
	noPduBytes(t, pduOf(160, zeroPart, zeroPart, zeroPart, wantPart(48, wantPart(48, filled(230)))))
}

// oneForm wants what is read to be right, and to be put as just these bytes.
func oneForm(t *testing.T, b []byte) {
	t.Helper()
	p, ok := impl.GetPdu(b)
	if !ok {
		noPduBytes(t, b)
		return
	}
	if !impl.PduOk(p) || !bytes.Equal(impl.PutPdu(p), b) || !bytes.Equal(wantPdu(p), b) {
		t.Errorf("GetPdu(%x) = %#v", b, p)
	}
}

func TestEachRequestHasOneForm(t *testing.T) {
	for _, p := range []impl.Pdu{
		{Kind: 160, Id: 3},
		{Kind: 165, Id: 300, A: 1000, B: 2, Binds: []impl.Bind{nullBind(1, 128)}},
		{Kind: 162, Id: -70000, A: 5, B: 1, Binds: unlikeBinds()},
		{Kind: 163, Binds: bindsOfBytes(t, 140)},
	} {
		whole := wantPdu(p)
		for at := range whole {
			oneForm(t, slices.Delete(bytes.Clone(whole), at, at+1))
			for x := range 256 {
				turned := bytes.Clone(whole)
				turned[at] = byte(x)
				oneForm(t, turned)
				oneForm(t, slices.Insert(bytes.Clone(whole), at, byte(x)))
			}
		}
	}
}

func TestBindsThatAreTheSame(t *testing.T) {
	lists := [][]impl.Bind{
		nil,
		{{}},
		{{}, {}},
		{nullBind(1)},
		{nullBind(2)},
		{nullBind(1, 0)},
		{nullBind(1), nullBind(2)},
		{nullBind(2), nullBind(1)},
		{nullBind(1), nullBind(2), nullBind(2)},
		{{O: []int{1}}},
		{{O: []int{1}, V: impl.Val{K: 2}}},
		{{O: []int{1}, V: impl.Val{K: 2, N: 1}}},
		{{O: []int{1}, V: impl.Val{K: 4}}},
		{{O: []int{1}, V: impl.Val{K: 4, S: "a"}}},
		{{O: []int{1}, V: impl.Val{K: 6, O: []int{1}}}},
		{{O: []int{1}, V: impl.Val{K: 6, O: []int{2}}}},
		{{V: impl.Val{K: 6, O: []int{1}}}},
		{nullBind(1), {O: []int{2}, V: impl.Val{K: 128}}},
		{{O: []int{1}, V: impl.Val{K: 128}}, nullBind(2)},
		{{O: []int{-1}, V: impl.Val{K: 9, N: 1, S: "a"}}},
		nullBinds(11),
		nullBinds(12),
	}
	for i, a := range lists {
		for j, b := range lists {
			copied := make([]impl.Bind, 0, 30)
			for _, x := range b {
				copied = append(copied, impl.Bind{O: append(make([]int, 0, 12), x.O...), V: x.V})
			}
			if got := impl.SameBinds(a, copied); got != (i == j) {
				t.Errorf("SameBinds(%#v, %#v) = %v", a, b, got)
			}
			if got := impl.SameBinds(copied, a); got != (i == j) {
				t.Errorf("SameBinds(%#v, %#v) = %v", b, a, got)
			}
		}
	}
}

func TestRequestsAreNotWritten(t *testing.T) {
	room := append(unlikeBinds(), nullBinds(3)...)
	numbers := []int{1, 128, 7, 7}
	room[0].O = numbers[:2]
	room[3].V.O = numbers[1:3]
	p := impl.Pdu{Kind: 163, Id: 4, Binds: room[:6]}
	kept := slices.Clone(room)
	b := impl.PutPdu(p)
	if !impl.PduOk(p) || !impl.SameBinds(p.Binds, room[:6]) || !bytes.Equal(b, wantPdu(p)) {
		t.Errorf("PutPdu(%#v) = %x", p, b)
	}
	clear(b)
	if !slices.Equal(numbers, []int{1, 128, 7, 7}) || !sameBindParts(room, kept) || !bytes.Equal(impl.PutPdu(p), wantPdu(p)) {
		t.Errorf("%v %v", numbers, room)
	}
}

func TestBytesOfRequestsAreNotWritten(t *testing.T) {
	p := impl.Pdu{Kind: 162, Id: 4, A: 1, B: 2, Binds: unlikeBinds()}
	whole := wantPdu(p)
	room := append(bytes.Clone(whole), 5, 0, 9, 9)
	kept := bytes.Clone(room)
	for end := range len(room) + 1 {
		_, ok := impl.GetPdu(room[:end])
		if ok != (end == len(whole)) || !bytes.Equal(room, kept) {
			t.Fatalf("GetPdu of %d bytes: %v, %x", end, ok, room)
		}
	}
}

func TestRequestsThatAreReadShareNothing(t *testing.T) {
	p := impl.Pdu{Kind: 162, Id: 4, Binds: []impl.Bind{
		{O: []int{1, 3}, V: impl.Val{K: 6, O: []int{1, 3}}},
		{O: []int{1, 3}, V: impl.Val{K: 4, S: "ab"}},
		{O: []int{1, 3}, V: impl.Val{K: 6, O: []int{1, 3}}},
	}}
	b := wantPdu(p)
	one, _ := impl.GetPdu(b)
	two, _ := impl.GetPdu(b)
	clear(b)
	if !samePdu(one, p) || !samePdu(two, p) {
		t.Fatalf("%#v %#v", one, two)
	}
	// Each list of one answer is written, and what lies behind it, and no other one may turn.
	for i := range one.Binds {
		_ = append(one.Binds[i].O, 77, 77)
		_ = append(one.Binds[i].V.O, 78, 78)
		one.Binds[i].O[0] = 90 + i
		if len(one.Binds[i].V.O) > 0 {
			one.Binds[i].V.O[0] = 95 + i
		}
	}
	want := []impl.Bind{
		{O: []int{90, 3}, V: impl.Val{K: 6, O: []int{95, 3}}},
		{O: []int{91, 3}, V: impl.Val{K: 4, S: "ab"}},
		{O: []int{92, 3}, V: impl.Val{K: 6, O: []int{97, 3}}},
	}
	if !sameBindParts(one.Binds, want) || !samePdu(two, p) {
		t.Errorf("%#v %#v", one, two)
	}
}

func TestWhatIsRefusedLeavesNothingBehind(t *testing.T) {
	right := wantPdu(impl.Pdu{Kind: 160, Id: 5, Binds: nullBinds(2)})
	for _, bad := range []string{"", "\xa0", "\xa0\x00", "\xff\xff\xff", strings.Repeat("\x30", 300), string(right[:len(right)-1])} {
		noPduBytes(t, []byte(bad))
		isPdu(t, impl.Pdu{Kind: 160, Id: 5, Binds: nullBinds(2)})
	}
}

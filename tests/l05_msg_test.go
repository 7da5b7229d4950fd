package tests

import (
	"bytes"
	"math"
	"slices"
	"strings"
	"testing"

	"loop.example/g00326/impl"
)

const twentyBytes = "twenty-bytes-of-text"

var (
	onePart  = []byte("\x02\x01\x01")
	yardPart = []byte("\x04\x04yard")
	askPart  = []byte("\xa0\x12\x02\x01\x07\x02\x01\x00\x02\x01\x00\x30\x07\x30\x05\x06\x01\x01\x05\x00")
)

// msgWords are words that may be had, of every size.
func msgWords() []string {
	words := []string{"yard", "Yard", "yar", "yards", "\x00", "a\x00\xffb", "\xe4\xf6", "öffne", " ", twentyBytes}
	for size := range 21 {
		words = append(words, strings.Repeat("w", size))
	}
	return words
}

// msgOf lays parts into an outer one, whatever they are.
func msgOf(parts ...[]byte) []byte {
	return wantPart(48, bytes.Join(parts, nil))
}

func wantMsg(word string, p impl.Pdu) []byte {
	return msgOf(onePart, wantPart(4, []byte(word)), wantPdu(p))
}

// isMsg wants p and word to have just the document's bytes, and p to come back of them, every field, by this word.
func isMsg(t *testing.T, word string, p impl.Pdu) {
	t.Helper()
	want := wantMsg(word, p)
	if b := impl.PutMsg(word, p); !bytes.Equal(b, want) {
		t.Errorf("PutMsg(%q, %#v) = %x; want %x", word, p, b, want)
	}
	back, code := impl.GetMsg(word, want)
	if code != impl.MsGood || !samePdu(back, p) {
		t.Errorf("GetMsg(%q, %x) = %#v, %d; want %#v, 0", word, want, back, code, p)
	}
}

func noPutMsg(t *testing.T, word string, p impl.Pdu) {
	t.Helper()
	if b := impl.PutMsg(word, p); len(b) != 0 {
		t.Errorf("PutMsg(%q, %#v) = %x; want nothing", word, p, b)
	}
}

func noMsg(t *testing.T, word string, b []byte, code int) {
	t.Helper()
	if p, got := impl.GetMsg(word, b); got != code || !samePdu(p, impl.Pdu{}) {
		t.Errorf("GetMsg(%q, %x) = %#v, %d; want nothing, %d", word, b, p, got, code)
	}
}

func TestMessageConstants(t *testing.T) {
	if impl.MsGood != 0 || impl.MsParse != 1 || impl.MsVersion != 2 || impl.MsWord != 3 {
		t.Errorf("%d %d %d %d", impl.MsGood, impl.MsParse, impl.MsVersion, impl.MsWord)
	}
}

func TestMessagesAsWrittenOut(t *testing.T) {
	for _, c := range []struct {
		form string
		word string
		p    impl.Pdu
	}{
		{"\x30\x12\x02\x01\x01\x04\x00\xa0\x0b\x02\x01\x00\x02\x01\x00\x02\x01\x00\x30\x00", "", impl.Pdu{Kind: 160}},
		{"\x30\x17\x02\x01\x01\x04\x04yard\xa1\x0c\x02\x02\xff\x7f\x02\x01\x00\x02\x01\x00\x30\x00", "yard", impl.Pdu{Kind: 161, Id: -129}},
		{"\x30\x1d\x02\x01\x01\x04\x02\x00\xff\xa2\x14\x02\x01\x07\x02\x01\x03\x02\x01\x01\x30\x09\x30\x07\x06\x02\x01\x03\x02\x01\x05", "\x00\xff", impl.Pdu{Kind: 162, Id: 7, A: 3, B: 1, Binds: []impl.Bind{{O: []int{1, 3}, V: impl.Val{K: 2, N: 5}}}}},
		{"\x30\x1b\x02\x01\x01\x04\x01s\xa3\x13\x02\x01\x01\x02\x01\x00\x02\x01\x00\x30\x08\x30\x06\x06\x01\x05\x04\x01z", "s", impl.Pdu{Kind: 163, Id: 1, Binds: []impl.Bind{{O: []int{5}, V: impl.Val{K: 4, S: "z"}}}}},
		{"\x30\x28\x02\x01\x01\x04\x14twenty-bytes-of-text\xa5\x0d\x02\x01\x00\x02\x02\x03\xe8\x02\x02\x00\x80\x30\x00", twentyBytes, impl.Pdu{Kind: 165, A: 1000, B: 128}},
	} {
		if b := impl.PutMsg(c.word, c.p); string(b) != c.form {
			t.Errorf("PutMsg(%q, %#v) = %x; want %x", c.word, c.p, b, c.form)
		}
		if p, code := impl.GetMsg(c.word, []byte(c.form)); code != 0 || !samePdu(p, c.p) {
			t.Errorf("GetMsg(%q, %x) = %#v, %d; want %#v", c.word, c.form, p, code, c.p)
		}
	}
}

func TestMessagesComeBackWithTheirOwnWord(t *testing.T) {
	lists := [][]impl.Bind{nil, {nullBind(1, 3)}, {textBind(20)}, unlikeBinds(), nullBinds(10)}
	for _, word := range msgWords() {
		for _, binds := range lists {
			for _, kind := range pduKinds {
				for _, id := range []int{0, -1, 300, math.MinInt32, math.MaxInt32} {
					isMsg(t, word, impl.Pdu{Kind: kind, Id: id, Binds: binds})
				}
			}
			for _, kind := range pairKinds {
				isMsg(t, word, impl.Pdu{Kind: kind, Id: 5, A: 3, B: 1000, Binds: binds})
			}
		}
	}
}

func TestMessagesDoNotComeBackWithAnotherWord(t *testing.T) {
	p := impl.Pdu{Kind: 163, Id: 9, Binds: nullBinds(2)}
	words := msgWords()
	for i, own := range words {
		if slices.Index(words, own) != i {
			t.Fatalf("%q twice", own)
		}
		for j, asked := range words {
			if i != j {
				noMsg(t, asked, wantMsg(own, p), 3)
			}
		}
		for _, asked := range []string{own + "x", "x" + own, own + "\x00", own + " ", own + strings.Repeat("y", 300)} {
			noMsg(t, asked, wantMsg(own, p), 3)
		}
		if own != "" {
			noMsg(t, own[1:], wantMsg(own, p), 3)
			noMsg(t, own[:len(own)-1], wantMsg(own, p), 3)
		}
		for at := range own {
			turned := []byte(own)
			turned[at] ^= 1
			noMsg(t, string(turned), wantMsg(own, p), 3)
		}
	}
}

func TestWordsOfOneByteTooMany(t *testing.T) {
	for _, kind := range pduKinds {
		p := impl.Pdu{Kind: kind, Id: 2, Binds: nullBinds(1)}
		isMsg(t, twentyBytes, p)
		for _, size := range []int{21, 22, 127, 128, 250, 251, 256, 276, 100000} {
			noPutMsg(t, strings.Repeat("w", size), p)
		}
	}
}

func TestLongerTextsThanAnyWordThatIsPut(t *testing.T) {
	// No length makes a part of 4 another thing than a text: it is the word that is asked for, or it is not.
	for _, size := range []int{21, 22, 48, 127, 128, 129, 200} {
		long := strings.Repeat("w", size)
		part := wantPart(4, []byte(long))
		for _, kind := range pduKinds {
			p := impl.Pdu{Kind: kind, Id: 2, Binds: nullBinds(1)}
			noPutMsg(t, long, p)
			b := wantMsg(long, p)
			if back, code := impl.GetMsg(long, b); code != 0 || !samePdu(back, p) {
				t.Errorf("GetMsg(%q, %x) = %#v, %d; want %#v, 0", long, b, back, code, p)
			}
			for _, asked := range []string{"", "yard", long[1:], long + "w", long[1:] + "x", long[:20]} {
				noMsg(t, asked, b, 3)
				noMsg(t, asked, msgOf(number(0), part, wantPdu(p)), 2)
			}
			noMsg(t, long, msgOf(number(2), part, wantPdu(p)), 2)
			noMsg(t, long, wantMsg("yard", p), 3)
		}
		noMsg(t, long, msgOf(onePart, part), 1)
		noMsg(t, "yard", msgOf(onePart, part), 3)
		noMsg(t, "yard", msgOf(number(0), part), 2)
		// It is not there whole, it is not the second part, or the number is none.
		for _, asked := range []string{long, "yard"} {
			noMsg(t, asked, msgOf(onePart, part[:len(part)-1]), 1)
			noMsg(t, asked, msgOf(part, onePart), 1)
			noMsg(t, asked, msgOf([]byte("\x02\x00"), part), 1)
			noMsg(t, asked, append(msgOf(onePart, part), 0), 1)
		}
	}
	// The most that the outer part has room for, with and without one more byte of it.
	widest := strings.Repeat("w", 244)
	noMsg(t, widest, msgOf(onePart, wantPart(4, []byte(widest))), 1)
	noMsg(t, "yard", msgOf(onePart, wantPart(4, []byte(widest))), 3)
	noMsg(t, "yard", msgOf(number(2), wantPart(4, []byte(widest))), 2)
	noMsg(t, "yard", msgOf(onePart, wantPart(4, []byte(widest+"w"))), 1)
}

func TestTextThatTakesInTheRequest(t *testing.T) {
	// A text whose length is turned so that it goes on into the request is whole, and another one.
	for size := range 256 {
		b := msgOf(onePart, yardPart, askPart)
		b[6] = byte(size)
		want := 3
		if size > len(yardPart)-2+len(askPart) {
			want = 1
		}
		if size != 4 {
			noMsg(t, "yard", b, want)
		}
	}
}

func TestMessagesOfRequestsThatHaveNoBytes(t *testing.T) {
	for _, p := range []impl.Pdu{
		{},
		{Kind: 164},
		{Kind: 160, A: 1},
		{Kind: 165, B: 1001},
		{Kind: 162, Id: math.MaxInt32 + 1},
		{Kind: 163, Binds: []impl.Bind{{O: []int{1}}}},
		{Kind: 163, Binds: []impl.Bind{{V: impl.Val{K: 5}}}},
		{Kind: 161, Binds: nullBinds(11)},
		{Kind: 162, Binds: bindsOfBytes(t, 239)},
		{Kind: 162, Binds: bindsOfBytes(t, 251)},
	} {
		for _, word := range []string{"", "yard", twentyBytes, twentyBytes + "x"} {
			noPutPdu(t, p)
			noPutMsg(t, word, p)
		}
	}
}

func TestMessagesAtTheirMostBytes(t *testing.T) {
	for _, word := range []string{"", "y", "yard", twentyBytes} {
		for _, id := range []int{0, 300, math.MinInt32} {
			// What stands beside the binds: the version, the word, the request's head, three numbers, the head of the binds.
			most := 250 - 3 - 2 - len(word) - 3 - len(number(id)) - 6 - 3
			for _, kind := range pduKinds {
				whole := impl.Pdu{Kind: kind, Id: id, Binds: bindsOfBytes(t, most)}
				if len(wantMsg(word, whole)) != 253 {
					t.Fatalf("%d bytes", len(wantMsg(word, whole)))
				}
				isMsg(t, word, whole)
				isMsg(t, word, impl.Pdu{Kind: kind, Id: id, Binds: bindsOfBytes(t, most-1)})
				tooMany := impl.Pdu{Kind: kind, Id: id, Binds: bindsOfBytes(t, most+1)}
				if len(impl.PutPdu(tooMany)) == 0 {
					t.Errorf("PutPdu(%#v) is nothing: only the message is too large", tooMany)
				}
				noPutMsg(t, word, tooMany)
				noMsg(t, word, wantMsg(word, tooMany), 1)
				noMsg(t, "other", wantMsg(word, tooMany), 1)
			}
		}
	}
	// A word of one byte more makes a message too large that was not.
	p := impl.Pdu{Kind: 160, Binds: bindsOfBytes(t, 220)}
	isMsg(t, "ten-bytes.", p)
	noPutMsg(t, "ten-bytes..", p)
}

func TestMessagesWhereTheFormOfTheirLengthTurns(t *testing.T) {
	for size := 70; size <= 226; size++ {
		isMsg(t, "yard", impl.Pdu{Kind: 160, Binds: bindsOfBytes(t, size)})
	}
}

func TestMessagesThatAreCut(t *testing.T) {
	for _, word := range []string{"", "yard", twentyBytes} {
		for _, p := range []impl.Pdu{
			{Kind: 160},
			{Kind: 165, Id: 300, A: 1, B: 2, Binds: []impl.Bind{nullBind(1, 3)}},
			{Kind: 162, Id: math.MinInt32, A: 1000, B: 1000, Binds: unlikeBinds()},
			{Kind: 163, Binds: bindsOfBytes(t, 200)},
		} {
			whole := wantMsg(word, p)
			for end := range whole {
				// What lies behind the list's length is not read.
				noMsg(t, word, whole[:end], 1)
				noMsg(t, word, bytes.Clone(whole[:end]), 1)
				noMsg(t, "other", whole[:end], 1)
			}
		}
	}
	noMsg(t, "", nil, 1)
}

func TestMessagesCutWithinAWholeOuterPart(t *testing.T) {
	// The outer length is right: what is cut behind the word is told only behind the version and the word.
	for version, code := range map[int]int{1: 3, 2: 2} {
		head := slices.Concat(number(version), yardPart)
		body := slices.Concat(head, askPart)
		for end := range body {
			b := msgOf(body[:end])
			if end < len(head) {
				noMsg(t, "yard", b, 1)
				noMsg(t, "open", b, 1)
				continue
			}
			noMsg(t, "open", b, code)
			if version == 1 {
				noMsg(t, "yard", b, 1)
			}
		}
	}
}

func TestMoreBehindMessages(t *testing.T) {
	isMsg(t, "yard", impl.Pdu{Kind: 160, Id: 7, Binds: []impl.Bind{nullBind(1)}})
	for _, more := range []string{"\x00", "\x05\x00", "\x02\x01\x01", "\x30\x00", "\x30", "\xa0", string(askPart), string(msgOf(onePart, yardPart, askPart))} {
		rest := []byte(more)
		// Behind all of it there is no outer part that is all of b, whatever else is wrong.
		for _, word := range []string{"yard", "open"} {
			noMsg(t, word, append(msgOf(onePart, yardPart, askPart), rest...), 1)
			noMsg(t, word, append(msgOf(number(2), yardPart, askPart), rest...), 1)
			noMsg(t, word, msgOf(rest, onePart, yardPart, askPart), 1)
			noMsg(t, word, msgOf(onePart, rest, yardPart, askPart), 1)
		}
		// Behind the word and behind the request it is the request that cannot be read.
		noMsg(t, "yard", msgOf(onePart, yardPart, rest, askPart), 1)
		noMsg(t, "yard", msgOf(onePart, yardPart, askPart, rest), 1)
		noMsg(t, "open", msgOf(onePart, yardPart, rest, askPart), 3)
		noMsg(t, "open", msgOf(onePart, yardPart, askPart, rest), 3)
		noMsg(t, "yard", msgOf(number(2), yardPart, rest, askPart), 2)
		noMsg(t, "yard", msgOf(number(2), yardPart, askPart, rest), 2)
	}
	// Behind the word another one is no request, be it the right one or not.
	for _, other := range []string{"yard", "open", ""} {
		part := wantPart(4, []byte(other))
		noMsg(t, "yard", msgOf(onePart, yardPart, part, askPart), 1)
		noMsg(t, "open", msgOf(onePart, yardPart, part, askPart), 3)
	}
	// More within the version's, the word's and the request's own bytes.
	noMsg(t, "yard", msgOf([]byte("\x02\x02\x01\x00"), yardPart, askPart), 2)
	noMsg(t, "yard", msgOf(onePart, []byte("\x04\x05yard\x00"), askPart), 3)
	noMsg(t, "yard", msgOf(onePart, yardPart, wantPart(160, append(bytes.Clone(askPart[2:]), 5, 0))), 1)
}

func TestWhatStandsAheadOfAMessage(t *testing.T) {
	whole := msgOf(onePart, yardPart, askPart)
	for _, ahead := range []string{"\x00", "\x05\x00", "\x30", "\x02\x01\x01"} {
		noMsg(t, "yard", append([]byte(ahead), whole...), 1)
	}
	// A message within a message is none.
	noMsg(t, "yard", msgOf(whole), 1)
	noMsg(t, "yard", msgOf(onePart, yardPart, whole), 1)
}

func TestPartsOfMessagesWithAnotherTag(t *testing.T) {
	for tag := range 256 {
		outer, version, word, request := msgOf(onePart, yardPart, askPart), bytes.Clone(onePart), bytes.Clone(yardPart), bytes.Clone(askPart)
		outer[0], version[0], word[0], request[0] = byte(tag), byte(tag), byte(tag), byte(tag)
		for _, asked := range []string{"yard", "open"} {
			if tag != 48 {
				noMsg(t, asked, outer, 1)
			}
			if tag != 2 {
				noMsg(t, asked, msgOf(version, yardPart, askPart), 1)
			}
			if tag != 4 {
				noMsg(t, asked, msgOf(onePart, word, askPart), 1)
				noMsg(t, asked, msgOf(number(2), word, askPart), 1)
			}
		}
		if !slices.Contains(pduKinds, tag) {
			noMsg(t, "yard", msgOf(onePart, yardPart, request), 1)
			noMsg(t, "open", msgOf(onePart, yardPart, request), 3)
			noMsg(t, "yard", msgOf(number(2), yardPart, request), 2)
		}
	}
}

func TestPartsOfMessagesThatLack(t *testing.T) {
	for _, word := range []string{"yard", "open"} {
		for _, b := range [][]byte{
			msgOf(),
			msgOf(onePart),
			msgOf(yardPart),
			msgOf(askPart),
			msgOf(yardPart, askPart),
			msgOf(onePart, askPart),
			msgOf(number(2), askPart),
			msgOf(number(2)),
			msgOf(yardPart, onePart, askPart),
			msgOf(askPart, onePart, yardPart),
			msgOf(onePart, askPart, yardPart),
			msgOf(onePart, onePart, yardPart, askPart),
			slices.Concat(onePart, yardPart, askPart),
			askPart,
		} {
			noMsg(t, word, b, 1)
		}
	}
	noMsg(t, "yard", msgOf(onePart, yardPart), 1)
	noMsg(t, "open", msgOf(onePart, yardPart), 3)
	noMsg(t, "yard", msgOf(number(2), yardPart), 2)
	noMsg(t, "open", msgOf(number(2), yardPart), 2)
}

func TestOtherVersions(t *testing.T) {
	for _, n := range []int{0, 2, 3, -1, -2, 48, 127, 128, -127, -128, -255, 255, 256, 257, -256, 65536, 65537, 1 << 24, 1<<24 + 1, math.MinInt32, math.MinInt32 + 1, math.MaxInt32} {
		noMsg(t, "yard", msgOf(number(n), yardPart, askPart), 2)
		noMsg(t, "open", msgOf(number(n), yardPart, askPart), 2)
	}
}

func TestVersionsWhoseBytesAreNone(t *testing.T) {
	for _, bad := range []string{"", "\x00\x01", "\x00\x00\x01", "\x00\x00\x00\x01", "\x00\x00\x00\x00\x01", "\x00\x02", "\xff\xff", "\x01\x01\x01\x01\x01", strings.Repeat("\x01", 130)} {
		part := wantPart(2, []byte(bad))
		noMsg(t, "yard", msgOf(part, yardPart, askPart), 1)
		noMsg(t, "open", msgOf(part, yardPart, askPart), 1)
	}
}

func TestMessagesWhoseRequestCannotBeRead(t *testing.T) {
	for _, bad := range []string{
		"", "\x00", "\xa0", "\xa0\x00", "\x05\x00", "\x30\x00", "\xff\xff\xff",
		string(askPart[:len(askPart)-1]),
		string(wantPdu(impl.Pdu{Kind: 160, A: 1})),
		string(wantPdu(impl.Pdu{Kind: 164})),
		string(wantPdu(impl.Pdu{Kind: 165, B: 1001})),
		string(wantPdu(impl.Pdu{Kind: 163, Binds: slices.Repeat([]impl.Bind{nullBind(1)}, 11)})),
	} {
		request := []byte(bad)
		noMsg(t, "yard", msgOf(onePart, yardPart, request), 1)
		noMsg(t, "open", msgOf(onePart, yardPart, request), 3)
		noMsg(t, "", msgOf(onePart, yardPart, request), 3)
		noMsg(t, "yard", msgOf(number(0), yardPart, request), 2)
		noMsg(t, "open", msgOf(number(0), yardPart, request), 2)
	}
}

func TestLengthsOfMessagesAreSaidInOneForm(t *testing.T) {
	body := slices.Concat(onePart, yardPart, askPart)
	for _, word := range []string{"yard", "open"} {
		noMsg(t, word, slices.Concat([]byte{48, 129, byte(len(body))}, body), 1)
		noMsg(t, word, slices.Concat([]byte{48, 130, 0, byte(len(body))}, body), 1)
		noMsg(t, word, slices.Concat([]byte{48, 128}, body, []byte{0, 0}), 1)
		noMsg(t, word, msgOf([]byte("\x02\x81\x01\x01"), yardPart, askPart), 1)
		noMsg(t, word, msgOf(onePart, []byte("\x04\x81\x04yard"), askPart), 1)
	}
	noMsg(t, "yard", msgOf(onePart, yardPart, slices.Concat([]byte{160, 129}, askPart[1:])), 1)
	noMsg(t, "open", msgOf(onePart, yardPart, slices.Concat([]byte{160, 129}, askPart[1:])), 3)
	for size := 251; size <= 255; size++ {
		filler := make([]byte, size-len(body))
		noMsg(t, "yard", slices.Concat([]byte{48, 129, byte(size)}, body, filler), 1)
		noMsg(t, "open", slices.Concat([]byte{48, 129, byte(size)}, body, filler), 1)
	}
}

// A msgForm is a message in pieces, of which a wrong turns one.
type msgForm struct {
	outer   int
	version []byte
	word    []byte
	request []byte
	behind  []byte
	asked   string
}

func (f msgForm) bytes() []byte {
	return append(wantPart(f.outer, slices.Concat(f.version, f.word, f.request)), f.behind...)
}

// A msgWrong names the piece that it turns, and at which of the chapter's four places its code is told.
type msgWrong struct {
	piece string
	place int
	turn  func(f *msgForm)
}

var codeAtPlace = [4]int{1, 2, 3, 1}

// No word that is asked here is one that stands in the bytes there: two wrongs must not make a right one.
func msgWrongs() []msgWrong {
	return []msgWrong{
		{"outer", 0, func(f *msgForm) { f.outer = 49 }},
		{"outer", 0, func(f *msgForm) { f.outer = 160 }},
		{"behind", 0, func(f *msgForm) { f.behind = []byte{0} }},
		{"behind", 0, func(f *msgForm) { f.behind = f.bytes() }},
		{"version", 0, func(f *msgForm) { f.version = nil }},
		{"version", 0, func(f *msgForm) { f.version = []byte("\x02\x00") }},
		{"version", 0, func(f *msgForm) { f.version = []byte("\x02\x02\x00\x01") }},
		{"version", 0, func(f *msgForm) { f.version = []byte("\x05\x00") }},
		{"version", 0, func(f *msgForm) { f.version = []byte("\x04\x01\x01") }},
		{"version", 0, func(f *msgForm) { f.version = []byte("\x02\x01\x01\x05\x00") }},
		{"word", 0, func(f *msgForm) { f.word = nil }},
		{"word", 0, func(f *msgForm) { f.word = []byte("\x06\x04yard") }},
		{"word", 0, func(f *msgForm) { f.word = []byte("\x02\x01\x01") }},
		{"word", 0, func(f *msgForm) { f.word = []byte("\x05\x00") }},
		{"word", 0, func(f *msgForm) { f.word = []byte("\x04\x81\x04yard") }},
		{"version", 1, func(f *msgForm) { f.version = number(0) }},
		{"version", 1, func(f *msgForm) { f.version = number(2) }},
		{"version", 1, func(f *msgForm) { f.version = number(-1) }},
		{"version", 1, func(f *msgForm) { f.version = number(257) }},
		{"word", 2, func(f *msgForm) { f.word = []byte("\x04\x04open") }},
		{"word", 2, func(f *msgForm) { f.word = []byte("\x04\x03yar") }},
		{"word", 2, func(f *msgForm) { f.word = []byte("\x04\x05yards") }},
		{"word", 2, func(f *msgForm) { f.word = []byte("\x04\x00") }},
		{"word", 2, func(f *msgForm) { f.word = wantPart(4, []byte(twentyBytes+"y")) }},
		{"word", 2, func(f *msgForm) { f.word = wantPart(4, []byte(strings.Repeat("yard", 40))) }},
		{"asked", 2, func(f *msgForm) { f.asked = "gate" }},
		{"asked", 2, func(f *msgForm) { f.asked = "yard\x00" }},
		{"asked", 2, func(f *msgForm) { f.asked = twentyBytes + "x" }},
		{"request", 3, func(f *msgForm) { f.request = nil }},
		{"request", 3, func(f *msgForm) { f.request = []byte{200} }},
		{"request", 3, func(f *msgForm) { f.request = askPart[:9] }},
		{"request", 3, func(f *msgForm) { f.request = slices.Concat(askPart, []byte{0}) }},
		{"request", 3, func(f *msgForm) { f.request = slices.Concat([]byte{5, 0}, askPart) }},
		{"request", 3, func(f *msgForm) { f.request = wantPdu(impl.Pdu{Kind: 163, B: 1}) }},
	}
}

func rightForm() msgForm {
	return msgForm{outer: 48, version: onePart, word: yardPart, request: askPart, asked: "yard"}
}

func TestTheCodeThatComesFirst(t *testing.T) {
	f := rightForm()
	if _, code := impl.GetMsg(f.asked, f.bytes()); code != 0 {
		t.Fatalf("the right one: %d", code)
	}
	wrongs := msgWrongs()
	for i, one := range wrongs {
		f := rightForm()
		one.turn(&f)
		noMsg(t, f.asked, f.bytes(), codeAtPlace[one.place])
		for j, two := range wrongs {
			if i == j || one.piece == two.piece {
				continue
			}
			f := rightForm()
			one.turn(&f)
			two.turn(&f)
			noMsg(t, f.asked, f.bytes(), codeAtPlace[min(one.place, two.place)])
		}
	}
}

// codeOf tells the code in the chapter's own order, by the chapters ahead.
func codeOf(word string, b []byte) int {
	tag, body, end, ok := impl.GetTlv(b, 0)
	firstTag, first, at, firstOk := impl.GetTlv(body, 0)
	secondTag, second, behind, secondOk := impl.GetTlv(body, at)
	version, versionOk := impl.GetInt(first)
	_, requestOk := impl.GetPdu(body[behind:])
	isText := secondOk && secondTag == 4
	switch {
	case !ok || tag != 48 || end != len(b) || !firstOk || firstTag != 2 || !versionOk || !isText:
		return 1
	case version != 1:
		return 2
	case string(second) != word:
		return 3
	case !requestOk:
		return 1
	}
	return 0
}

// oneFormOfMsg wants the code that is told first, and of what is let in just the bytes that are put.
func oneFormOfMsg(t *testing.T, word string, b []byte) {
	t.Helper()
	want := codeOf(word, b)
	if want != 0 {
		noMsg(t, word, b, want)
		return
	}
	p, code := impl.GetMsg(word, b)
	if code != 0 || !impl.PduOk(p) || !bytes.Equal(impl.PutMsg(word, p), b) || !bytes.Equal(wantMsg(word, p), b) {
		t.Errorf("GetMsg(%q, %x) = %#v, %d", word, b, p, code)
	}
}

func TestEachMessageHasOneForm(t *testing.T) {
	for _, p := range []impl.Pdu{
		{Kind: 160, Id: 3},
		{Kind: 165, Id: 300, A: 1000, B: 2, Binds: []impl.Bind{nullBind(1, 128)}},
		{Kind: 162, Id: -70000, A: 5, B: 1, Binds: unlikeBinds()},
	} {
		for _, word := range []string{"", "yard", twentyBytes} {
			whole := wantMsg(word, p)
			for at := range whole {
				for _, asked := range []string{word, "open"} {
					oneFormOfMsg(t, asked, slices.Delete(bytes.Clone(whole), at, at+1))
					for x := range 256 {
						turned := bytes.Clone(whole)
						turned[at] = byte(x)
						oneFormOfMsg(t, asked, turned)
						oneFormOfMsg(t, asked, slices.Insert(bytes.Clone(whole), at, byte(x)))
					}
				}
			}
		}
	}
}

func TestBytesThatAreNoMessageAtAll(t *testing.T) {
	for _, b := range []string{"\x30", "\x30\x00", "\x30\x81", "\x30\xff", strings.Repeat("\x30", 300), strings.Repeat("\x00", 1000), strings.Repeat("\xff", 100000)} {
		for _, word := range []string{"", "yard", strings.Repeat("w", 100000)} {
			noMsg(t, word, []byte(b), 1)
		}
	}
	for first := range 256 {
		noMsg(t, "", []byte{byte(first)}, 1)
		for second := range 256 {
			noMsg(t, "", []byte{byte(first), byte(second)}, 1)
		}
	}
}

func TestRequestsOfMessagesAreNotWritten(t *testing.T) {
	room := append(unlikeBinds(), nullBinds(3)...)
	numbers := []int{1, 128, 7, 7}
	room[0].O = numbers[:2]
	room[3].V.O = numbers[1:3]
	p := impl.Pdu{Kind: 163, Id: 4, Binds: room[:6]}
	kept := slices.Clone(room)
	b := impl.PutMsg("yard", p)
	if !bytes.Equal(b, wantMsg("yard", p)) {
		t.Errorf("PutMsg(%#v) = %x", p, b)
	}
	clear(b)
	if !slices.Equal(numbers, []int{1, 128, 7, 7}) || !sameBindParts(room, kept) || !bytes.Equal(impl.PutMsg("yard", p), wantMsg("yard", p)) {
		t.Errorf("%v %v", numbers, room)
	}
}

func TestBytesOfMessagesAreNotWritten(t *testing.T) {
	whole := wantMsg("yard", impl.Pdu{Kind: 162, Id: 4, A: 1, B: 2, Binds: unlikeBinds()})
	room := append(bytes.Clone(whole), 5, 0, 9, 9)
	kept := bytes.Clone(room)
	for end := range len(room) + 1 {
		_, code := impl.GetMsg("yard", room[:end])
		if (code == 0) != (end == len(whole)) || !bytes.Equal(room, kept) {
			t.Fatalf("GetMsg of %d bytes: %d, %x", end, code, room)
		}
	}
}

func TestMessagesThatAreReadShareNothing(t *testing.T) {
	p := impl.Pdu{Kind: 162, Id: 4, Binds: []impl.Bind{
		{O: []int{1, 3}, V: impl.Val{K: 6, O: []int{1, 3}}},
		{O: []int{1, 3}, V: impl.Val{K: 6, O: []int{1, 3}}},
	}}
	b := wantMsg("yard", p)
	one, _ := impl.GetMsg("yard", b)
	two, _ := impl.GetMsg("yard", b)
	clear(b)
	if !samePdu(one, p) || !samePdu(two, p) {
		t.Fatalf("%#v %#v", one, two)
	}
	for i := range one.Binds {
		_ = append(one.Binds[i].O, 77, 77)
		_ = append(one.Binds[i].V.O, 78, 78)
		one.Binds[i].O[0], one.Binds[i].V.O[0] = 90+i, 95+i
	}
	want := []impl.Bind{
		{O: []int{90, 3}, V: impl.Val{K: 6, O: []int{95, 3}}},
		{O: []int{91, 3}, V: impl.Val{K: 6, O: []int{96, 3}}},
	}
	if !sameBindParts(one.Binds, want) || !samePdu(two, p) {
		t.Errorf("%#v %#v", one, two)
	}
}

func TestMessagesThatAreRefusedLeaveNothingBehind(t *testing.T) {
	p := impl.Pdu{Kind: 160, Id: 5, Binds: nullBinds(2)}
	for _, wrong := range msgWrongs() {
		f := rightForm()
		wrong.turn(&f)
		noMsg(t, f.asked, f.bytes(), codeAtPlace[wrong.place])
		noPutMsg(t, twentyBytes+"x", p)
		isMsg(t, "yard", p)
	}
}

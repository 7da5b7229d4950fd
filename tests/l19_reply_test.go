package tests

import (
	"math"
	"slices"
	"strings"
	"testing"

	"loop.example/g00326/impl"
)

// rightOid, rightPdu and the models below say the document's words once more, plainly.
func rightOid(o []int) bool {
	return len(o) >= 1 && len(o) <= 10 && slices.Min(o) >= 0 && slices.Max(o) <= 100000
}

func rightVal(v impl.Val) bool {
	switch v.K {
	case 5, 128, 130:
		return sameParts(v, impl.Val{K: v.K})
	case 2:
		return sameParts(v, impl.Val{K: 2, N: v.N}) && v.N >= math.MinInt32 && v.N <= math.MaxInt32
	case 4:
		return sameParts(v, impl.Val{K: 4, S: v.S}) && len(v.S) <= 20
	case 6:
		return sameParts(v, impl.Val{K: 6, O: v.O}) && rightOid(v.O)
	}
	return false
}

func rightPdu(p impl.Pdu) bool {
	for _, x := range p.Binds {
		if !rightOid(x.O) || !rightVal(x.V) {
			return false
		}
	}
	pairs := p.A == 0 && p.B == 0
	if slices.Contains(pairKinds, p.Kind) {
		pairs = p.A >= 0 && p.A <= 1000 && p.B >= 0 && p.B <= 1000
	}
	return slices.Contains(pduKinds, p.Kind) && p.Id >= math.MinInt32 && p.Id <= math.MaxInt32 && pairs && len(p.Binds) <= 10
}

// wantRoom counts the bytes that a right Pdu would have: above 120 it is all the same whether there are any.
func wantRoom(p impl.Pdu) bool {
	return rightPdu(p) && len(wantPdu(p)) <= 120
}

// wantMany are the binds of many, if there were no limit of bytes.
func wantMany(b impl.Bridge, p impl.Pdu) []impl.Bind {
	var told []impl.Bind
	var names [][]int
	for i, x := range p.Binds {
		if i < p.A {
			told = append(told, wantMibNext(b, x.O))
		} else {
			names = append(names, x.O)
		}
	}
	for round := 0; round < p.B && len(told) < 10; round++ {
		for i, o := range names {
			x := wantMibNext(b, o)
			told, names[i] = append(told, x), x.O
		}
	}
	return told[:min(len(told), 10)]
}

// wantAnswer is cut where it is one of many; any other may be too large.
func wantAnswer(b impl.Bridge, p impl.Pdu) (impl.Bridge, impl.Pdu) {
	r := impl.Pdu{Kind: 162, Id: p.Id}
	switch p.Kind {
	case 160:
		for _, x := range p.Binds {
			r.Binds = append(r.Binds, impl.Bind{O: x.O, V: wantMibGet(b, x.O)})
		}
	case 161:
		for _, x := range p.Binds {
			r.Binds = append(r.Binds, wantMibNext(b, x.O))
		}
	case 163:
		b, r.A, r.B = wantAll(b, p.Binds)
		r.Binds = p.Binds
	case 165:
		all := wantMany(b, p)
		for count := range len(all) + 1 {
			if some := (impl.Pdu{Kind: 162, Id: p.Id, Binds: all[:count]}); wantRoom(some) {
				r = some
			}
		}
	}
	return b, r
}

func wantReply(b impl.Bridge, p impl.Pdu) (impl.Bridge, impl.Pdu, bool) {
	if !rightBridge(b) || !rightPdu(p) || p.Kind == 162 {
		return b, impl.Pdu{}, false
	}
	then, r := wantAnswer(b, p)
	if !wantRoom(r) {
		return b, impl.Pdu{Kind: 162, Id: p.Id, A: 7}, true
	}
	return then, r, true
}

// ownBinds wants no bind of an answer to share memory with one behind it, and nothing behind the last one;
// the answer is written over.
func ownBinds(t *testing.T, l []impl.Bind) {
	t.Helper()
	kept := make([]impl.Bind, 0, len(l))
	if left := l[len(l):cap(l)]; !sameBindParts(left, make([]impl.Bind, len(left))) {
		t.Fatalf("behind the binds %+v more is handed out: %+v", l, left)
	}
	for _, x := range l {
		kept = append(kept, copiedBind(x))
	}
	for i := range l {
		overwrite(l[i].O, -7)
		if !sameParts(l[i].V, kept[i].V) {
			t.Fatalf("the name of the bind %d of %+v is its value, too", i, kept)
		}
		overwrite(l[i].V.O, -7)
		if !sameBindParts(l[i+1:], kept[i+1:]) {
			t.Fatalf("the bind %d of %+v is shared with one behind it", i, kept)
		}
	}
	overwrite(l, impl.Bind{O: []int{-7}})
}

// answered wants ReplyOf to answer as its model does, nothing that is handed in to be written, and the promise.
func answered(t *testing.T, b impl.Bridge, p impl.Pdu) (impl.Bridge, impl.Pdu, bool) {
	t.Helper()
	want, wantPdu, wantOk := wantReply(b, p)
	var r impl.Pdu
	got := handedTo(t, b, func(b impl.Bridge) impl.Bridge {
		var then impl.Bridge
		bindsHandedTo(t, p.Binds, func(l []impl.Bind) {
			asked := p
			asked.Binds = l
			made, told, ok := impl.ReplyOf(b, asked)
			if ok != wantOk || !samePdu(told, wantPdu) {
				t.Errorf("ReplyOf(%+v, %+v) tells %+v, %v; want %+v, %v", b, p, told, ok, wantPdu, wantOk)
			}
			then, r = made, told
			r.Binds = nil
			for _, x := range told.Binds {
				r.Binds = append(r.Binds, copiedBind(x))
			}
			ownBinds(t, told.Binds)
		})
		return then
	})
	if !sameBridgeParts(got, want) {
		t.Errorf("behind ReplyOf(%+v, %+v) the bridge is %+v; want %+v", b, p, got, want)
	}
	asksAlone := p.Kind != impl.RqSet || !wantOk || r.A != impl.ErNone
	if asksAlone && (!sameBridgeParts(got, b) || !impl.SameBridge(got, b)) {
		t.Errorf("what asks, %+v, changes %+v: %+v", p, b, got)
	}
	if wantOk && (r.Kind != impl.RqRep || r.Id != p.Id || !impl.PduOk(r) || !fitsAs(t, r)) {
		t.Errorf("%+v is answered by %+v", p, r)
	}
	return got, r, wantOk
}

// fitsAs wants Fits to answer as its model does.
func fitsAs(t *testing.T, p impl.Pdu) bool {
	t.Helper()
	var fits bool
	bindsHandedTo(t, p.Binds, func(l []impl.Bind) {
		asked := p
		asked.Binds = l
		fits = impl.Fits(asked)
	})
	if want := wantRoom(p); fits != want {
		t.Errorf("Fits(%+v) = %v; want %v", p, fits, want)
	}
	return fits
}

// asking is a request of Id 4; its names are texts, and behind 1.3.1 where they begin with a point.
func asking(kind int, names ...string) impl.Pdu {
	p := impl.Pdu{Kind: kind, Id: 4}
	for _, name := range names {
		if strings.HasPrefix(name, ".") {
			name = "1.3.1" + name
		}
		o, ok := impl.ParseOid(name)
		if !ok {
			panic("no name: " + name)
		}
		p.Binds = append(p.Binds, nullBind(o...))
	}
	return p
}

func askingMany(a int, b int, names ...string) impl.Pdu {
	p := asking(impl.RqBulk, names...)
	p.A, p.B = a, b
	return p
}

func setting(l ...impl.Bind) impl.Pdu { return impl.Pdu{Kind: impl.RqSet, Id: 4, Binds: l} }

// toldText is a bind of an answer: of what is not there, and of the end, the name and a word.
func toldText(x impl.Bind) string {
	switch x.V.K {
	case impl.VNone, impl.VEnd:
		word := map[int]string{impl.VNone: " none", impl.VEnd: " end"}[x.V.K]
		if name, behind := strings.CutPrefix(wantOidText(x.O), "1.3.1."); behind {
			return name + word
		}
		return "at " + wantOidText(x.O) + word
	}
	return thingText(x)
}

// tells wants a request to be answered, without a code, with just this.
func tells(t *testing.T, b impl.Bridge, p impl.Pdu, want ...string) {
	t.Helper()
	_, r, ok := answered(t, b, p)
	var got []string
	for _, x := range r.Binds {
		got = append(got, toldText(x))
	}
	if !ok || r.A != impl.ErNone || r.B != 0 || !slices.Equal(got, want) {
		t.Errorf("%+v is answered by %d, %d, %q, %v; want %q", p, r.A, r.B, got, ok, want)
	}
}

// tooLarge wants the answer to a request to have no room.
func tooLarge(t *testing.T, b impl.Bridge, p impl.Pdu) {
	t.Helper()
	got, r, ok := answered(t, b, p)
	if !ok || !samePdu(r, impl.Pdu{Kind: 162, Id: p.Id, A: 7}) || !sameBridgeParts(got, b) {
		t.Errorf("%+v is answered by %+v, %v; want ErBig", p, r, ok)
	}
}

// notAnswered wants a bridge to stay as it was, and nothing to be told.
func notAnswered(t *testing.T, b impl.Bridge, p impl.Pdu) {
	t.Helper()
	got, r, ok := answered(t, b, p)
	if ok || !samePdu(r, impl.Pdu{}) || !sameBridgeParts(got, b) {
		t.Errorf("ReplyOf(%+v, %+v) = %+v, %+v, %v", b, p, got, r, ok)
	}
}

// longBind has a name of so many bytes, from 1 to 30.
func longBind(size int) impl.Bind {
	var o []int
	for ; size > 3 || size == 3; size -= 3 {
		o = append(o, 100000)
	}
	return nullBind(append(o, [][]int{{}, {127}, {16383}}[size]...)...)
}

// bindsOfRoom are binds of nothing whose forms have so many bytes altogether.
func bindsOfRoom(t *testing.T, size int) []impl.Bind {
	t.Helper()
	var l []impl.Bind
	for left := size; left > 0; {
		take := min(left, 36)
		if rest := left - take; rest > 0 && rest < 7 {
			take -= 7
		}
		l = append(l, longBind(take-6))
		left -= take
	}
	if len(wantBinds(l)) != size {
		t.Fatalf("binds have %d bytes; want %d", len(wantBinds(l)), size)
	}
	return l
}

func TestReplyConstants(t *testing.T) {
	if impl.MaxMsg != 120 {
		t.Errorf("MaxMsg = %d", impl.MaxMsg)
	}
}

func TestRepliesOfGet(t *testing.T) {
	b := quietYard()
	tells(t, b, asking(impl.RqGet, ".1.1"), `1.1 "yard"`)
	tells(t, b, asking(impl.RqGet, ".1.2", ".2.3.2", ".2.4.3", ".3.2.40", ".4.1.40.20"), "1.2 21", "2.3.2 1", "2.4.3 99", "3.2.40 6", "4.1.40.20 8")
	tells(t, b, asking(impl.RqGet, ".4.1.4.300", ".1.5", ".1.1"), "4.1.4.300 2", "1.5 24", `1.1 "yard"`)
	tells(t, b, asking(impl.RqGet, ".1.5", ".1.5", ".1.6", ".1.5", ".1.6"), "1.5 24", "1.5 24", "1.6 none", "1.5 24", "1.6 none")
	tells(t, b, asking(impl.RqGet, ".1", ".2.1", ".2.1.4", ".3.1.41", ".4.1.4", ".4.1.4.301"), "1 none", "2.1 none", "2.1.4 none", "3.1.41 none", "4.1.4 none", "4.1.4.301 none")
	tells(t, b, asking(impl.RqGet, "0", "1", "1.3", "1.3.1", "2", "100000", "1.3.1.1.1.0"), "at 0 none", "at 1 none", "at 1.3 none", "at 1.3.1 none", "at 2 none", "at 100000 none", "1.1.0 none")
	tells(t, impl.BridgeNew(1, 1), asking(impl.RqGet, ".1.1", ".2.4.1", ".2.4.2"), `1.1 ""`, "2.4.1 1", "2.4.2 none")
}

func TestRepliesOfNext(t *testing.T) {
	b := quietYard()
	tells(t, b, asking(impl.RqNext, ".1.1"), "1.2 21")
	tells(t, b, asking(impl.RqNext, "0"), `1.1 "yard"`)
	tells(t, b, asking(impl.RqNext, ".1.5", ".2.4.3", ".3.1.40", ".3.3.99", ".4.1.40.20"), "2.1.1 0", "3.1.4 1", "3.1.99 1", "4.1.4.300 2", "4.1.40.9999 1")
	tells(t, b, asking(impl.RqNext, ".1.6", ".2.1.4", ".3.1.5", ".4", ".4.1.40.21"), "2.1.1 0", "2.2.1 31", "3.1.40 1", "4.1.4.300 2", "4.1.40.9999 1")
	tells(t, b, asking(impl.RqNext, ".4.1.40.9999", ".4.1.40.9998", ".4.1.40.9999.0", "2", "100000"), "4.1.40.9999 end", "4.1.40.9999 1", "4.1.40.9999.0 end", "at 2 end", "at 100000 end")
	tells(t, b, asking(impl.RqNext, ".1.1", ".1.4", ".1.1", "9", ".1.1"), "1.2 21", "1.5 24", "1.2 21", "at 9 end", "1.2 21")
	tells(t, impl.BridgeNew(1, 1), asking(impl.RqNext, ".3.2.1", ".3.3.1"), "3.3.1 1", "3.3.1 end")
}

// What a bind of a request is worth is not looked at, unless something is set.
func TestWhatIsAskedIsNamedAlone(t *testing.T) {
	b := quietYard()
	for _, v := range []impl.Val{{K: 5}, setNumber(-129), setText("a"), {K: 6, O: []int{1, 128}}, {K: 128}, {K: 130}} {
		name, end := valSet(v, 1, 2), valSet(v, 4, 1, 40, 9999)
		tells(t, b, impl.Pdu{Kind: impl.RqGet, Id: 7, Binds: []impl.Bind{name, end, valSet(v, 9)}}, "1.2 21", "4.1.40.9999 1", "9 none")
		tells(t, b, impl.Pdu{Kind: impl.RqNext, Id: -7, Binds: []impl.Bind{name, end, valSet(v, 9)}}, "1.3 22", "4.1.40.9999 end", "9 end")
		tells(t, b, impl.Pdu{Kind: impl.RqBulk, Id: 0, A: 1, B: 2, Binds: []impl.Bind{name, end}}, "1.3 22", "4.1.40.9999 end", "4.1.40.9999 end")
	}
}

func TestRepliesOfMany(t *testing.T) {
	b := quietYard()
	tells(t, b, askingMany(0, 1, ".1.1", ".2.4.3"), "1.2 21", "3.1.4 1")
	tells(t, b, askingMany(0, 3, ".1.1", ".2.4.3"), "1.2 21", "3.1.4 1", "1.3 22", "3.1.40 1", "1.4 23", "3.1.99 1")
	tells(t, b, askingMany(1, 3, ".1.1", ".2.4.3"), "1.2 21", "3.1.4 1", "3.1.40 1", "3.1.99 1")
	tells(t, b, askingMany(2, 3, ".1.1", ".2.4.3", ".4"), "1.2 21", "3.1.4 1", "4.1.4.300 2", "4.1.40.20 8", "4.1.40.9999 1")
	tells(t, b, askingMany(1, 2, ".4.1.40.20", ".1.4", ".3.3.99"), "4.1.40.9999 1", "1.5 24", "4.1.4.300 2", "2.1.1 0", "4.1.40.20 8")
	tells(t, b, askingMany(1, 2, "0", "0", "0"), `1.1 "yard"`, `1.1 "yard"`, `1.1 "yard"`, "1.2 21", "1.2 21")
	tells(t, b, askingMany(0, 4, ".3.2"), "3.2.4 7", "3.2.40 6", "3.2.99 0", "3.3.4 5")
}

func TestHowManyAreAskedOnce(t *testing.T) {
	b := quietYard()
	once := []string{"1.2 21", "2.1.1 0"}
	for _, a := range []int{2, 3, 10, 11, 999, 1000} {
		for _, times := range []int{0, 1, 7, 1000} {
			tells(t, b, askingMany(a, times, ".1.1", ".1.5"), once...)
		}
	}
	tells(t, b, askingMany(0, 2, ".1.1", ".1.5"), "1.2 21", "2.1.1 0", "1.3 22", "2.1.2 1")
	tells(t, b, askingMany(1, 2, ".1.1", ".1.5"), "1.2 21", "2.1.1 0", "2.1.2 1")
}

func TestHowOftenTheOthersAreAsked(t *testing.T) {
	b := quietYard()
	tells(t, b, askingMany(0, 0, ".1.1", ".1.5"))
	tells(t, b, askingMany(1, 0, ".1.1", ".1.5"), "1.2 21")
	all := []string{"1.2 21", "1.3 22", "1.4 23", "1.5 24", "2.1.1 0", "2.1.2 1", "2.1.3 1", "2.2.1 31"}
	for times := range 9 {
		tells(t, b, askingMany(0, times, ".1.1"), all[:times]...)
	}
	for _, times := range []int{9, 10, 11, 90, 999, 1000} {
		tells(t, b, askingMany(0, times, ".1.1"), all...)
	}
}

func TestNamesThatWereToldTheEndAreToldItAgain(t *testing.T) {
	b := quietYard()
	tells(t, b, askingMany(0, 3, ".4.1.40.20"), "4.1.40.9999 1", "4.1.40.9999 end", "4.1.40.9999 end")
	tells(t, b, askingMany(0, 2, ".4.1.40.9999", ".4.1.4.300"), "4.1.40.9999 end", "4.1.40.20 8", "4.1.40.9999 end", "4.1.40.9999 1")
	tells(t, b, askingMany(0, 4, "7.7", ".1.1"), "at 7.7 end", "1.2 21", "at 7.7 end", "1.3 22", "at 7.7 end", "1.4 23", "at 7.7 end", "1.5 24")
	tells(t, b, askingMany(1, 3, "7.7", "9"), "at 7.7 end", "at 9 end", "at 9 end", "at 9 end")
}

// Ten binds of the end have room: here the count alone is a limit.
func TestManyAreAtMostMaxBinds(t *testing.T) {
	b := quietYard()
	for _, times := range []int{9, 10, 11, 12, 1000} {
		tells(t, b, askingMany(0, times, "9"), slices.Repeat([]string{"at 9 end"}, min(times, 10))...)
		tells(t, b, askingMany(1, times, "8", "9"), append([]string{"at 8 end"}, slices.Repeat([]string{"at 9 end"}, min(times, 9))...)...)
	}
	three := []string{"at 7 end", "at 8 end", "at 9 end"}
	tells(t, b, askingMany(0, 3, "7", "8", "9"), slices.Repeat(three, 3)...)
	for _, times := range []int{4, 5, 1000} {
		tells(t, b, askingMany(0, times, "7", "8", "9"), append(slices.Repeat(three, 3), "at 7 end")...)
		tells(t, b, askingMany(2, times, "4", "5", "7", "8", "9"), append([]string{"at 4 end", "at 5 end"}, slices.Repeat(three, 3)...)[:10]...)
	}
	ten := []string{"2", "3", "4", "5", "6", "7", "8", "9", "10", "11"}
	var ends []string
	for _, name := range ten {
		ends = append(ends, "at "+name+" end")
	}
	for a := range 12 {
		for _, times := range []int{1, 2, 1000} {
			tells(t, b, askingMany(a, times, ten...), ends...)
		}
		tells(t, b, askingMany(a, 0, ten...), ends[:min(a, 10)]...)
	}
	tells(t, b, asking(impl.RqNext, ten...), ends...)
}

func TestNoNamesAtAll(t *testing.T) {
	for _, b := range []impl.Bridge{quietYard(), impl.BridgeNew(1, 6), yardOf(5, silent(), down())} {
		for _, kind := range []int{impl.RqGet, impl.RqNext, impl.RqSet, impl.RqBulk} {
			for _, none := range [][]impl.Bind{nil, {}} {
				tells(t, b, impl.Pdu{Kind: kind, Id: 9, Binds: none})
			}
		}
		for _, n := range []int{0, 1, 10, 1000} {
			tells(t, b, askingMany(n, 1000))
			tells(t, b, askingMany(1000, n))
		}
	}
}

func TestRepliesOfSetThatIsMade(t *testing.T) {
	b := setYard()
	for _, l := range [][]impl.Bind{
		{nameSet("new")},
		{nameSet("yard")},
		{numSet(7, 2, 2, 1), nameSet("ten bytes.")},
		{numSet(30, 2, 4, 1), numSet(4, 3, 1, 30), numSet(3, 3, 2, 30), numSet(1, 3, 3, 30)},
		{numSet(6, 3, 1, 20)},
	} {
		want, _, _ := impl.SetAll(b, l)
		got, r, ok := answered(t, b, setting(l...))
		if !ok || !samePdu(r, impl.Pdu{Kind: 162, Id: 4, Binds: l}) || !sameBridgeParts(got, want) || got.Vers != b.Vers+1 {
			t.Errorf("%+v is answered by %+v, %v; the bridge is %+v", l, r, ok, got)
		}
	}
}

func TestRepliesOfSetThatIsRefused(t *testing.T) {
	b := setYard()
	for _, c := range []struct {
		code, place int
		l           []impl.Bind
	}{
		{impl.ErType, 1, []impl.Bind{valSet(setText("a"), 2, 2, 1)}},
		{impl.ErType, 2, []impl.Bind{nameSet("new"), valSet(impl.Val{K: 6, O: []int{1, 128}}, 3, 1, 30)}},
		{impl.ErValue, 2, []impl.Bind{nameSet("new"), numSet(1001, 2, 2, 1), numSet(1, 1, 6)}},
		{impl.ErThere, 1, []impl.Bind{nullBind(0)}},
		{impl.ErThere, 3, []impl.Bind{numSet(4, 3, 1, 30), numSet(7, 2, 2, 1), numSet(1, 2, 2, 4)}},
		{impl.ErWrite, 2, []impl.Bind{numSet(4, 3, 1, 30), numSet(0, 1, 2), nameSet("new")}},
		{impl.ErBoth, 2, []impl.Bind{nameSet("a"), nameSet("b")}},
		{impl.ErBoth, 2, []impl.Bind{nameSet("a"), numSet(30, 2, 4, 1)}},
	} {
		got, r, ok := answered(t, b, setting(c.l...))
		if !ok || !samePdu(r, impl.Pdu{Kind: 162, Id: 4, A: c.code, B: c.place, Binds: c.l}) || !sameBridgeParts(got, b) {
			t.Errorf("%+v is answered by %+v, %v; the bridge is %+v", c.l, r, ok, got)
		}
	}
}

// The last place that has room is the eighth: those ahead of what is refused could all be made.
func TestTheLastPlaceThatIsRefused(t *testing.T) {
	b := yardOf(9, slices.Repeat([]impl.Pt{silent()}, 6)...)
	l := []impl.Bind{nameSet("")}
	for port := 1; port <= 6; port++ {
		l = append(l, numSet(7, 2, 2, port))
	}
	_, r, ok := answered(t, b, setting(append(slices.Clip(l), nullBind(9))...))
	if !ok || r.A != impl.ErThere || r.B != 8 || len(r.Binds) != 8 {
		t.Errorf("%+v, %v", r, ok)
	}
	tooLarge(t, b, setting(append(l, numSet(1, 2, 4, 1), nullBind(9))...))
	_, r, ok = answered(t, b, setting(slices.Repeat([]impl.Bind{nullBind(9)}, 10)...))
	if !ok || r.A != impl.ErThere || r.B != 1 || len(r.Binds) != 10 {
		t.Errorf("%+v, %v", r, ok)
	}
}

// An answer with nothing to tell has 13 bytes, and with one byte more in its Id 14.
func TestAnswersOfJustMaxMsg(t *testing.T) {
	b := setYard()
	for _, c := range []struct{ id, head int }{{0, 13}, {127, 13}, {-128, 13}, {128, 14}, {-129, 14}, {32768, 15}, {math.MaxInt32, 16}, {math.MinInt32, 16}} {
		just, more := bindsOfRoom(t, 120-c.head), bindsOfRoom(t, 121-c.head)
		for _, kind := range []int{impl.RqGet, impl.RqNext, impl.RqSet} {
			_, r, ok := answered(t, b, impl.Pdu{Kind: kind, Id: c.id, Binds: just})
			if !ok || len(impl.PutPdu(r)) != 120 || r.A == impl.ErBig || len(r.Binds) != len(just) {
				t.Errorf("of %d bytes: %+v, %v", len(impl.PutPdu(r)), r, ok)
			}
			tooLarge(t, b, impl.Pdu{Kind: kind, Id: c.id, Binds: more})
		}
		for _, p := range []impl.Pdu{{A: 10, B: 0}, {A: 0, B: 1}, {A: 1, B: 1}, {A: 1000, B: 1000}} {
			p.Kind, p.Id, p.Binds = impl.RqBulk, c.id, just
			if _, r, ok := answered(t, b, p); !ok || len(impl.PutPdu(r)) != 120 || len(r.Binds) != len(just) {
				t.Errorf("of %d bytes: %+v, %v", len(impl.PutPdu(r)), r, ok)
			}
			p.Binds = more
			if _, r, ok := answered(t, b, p); !ok || r.A != 0 || len(r.Binds) != len(more)-1 {
				t.Errorf("%+v is answered by %+v, %v", p, r, ok)
			}
		}
	}
}

// What is set has room just if its answer has: else nothing was set, though it could be.
func TestSetsOfJustMaxMsg(t *testing.T) {
	b := yardOf(9, slices.Repeat([]impl.Pt{silent()}, 6)...)
	var l []impl.Bind
	for port := 1; port <= 6; port++ {
		l = append(l, numSet(10*port, 2, 2, port))
	}
	l = append(l, numSet(20, 2, 4, 1))
	for size := range 11 {
		named := append(slices.Clone(l), nameSet("ten bytes."[:size]))
		p := setting(named...)
		if size > 5 {
			tooLarge(t, b, p)
			continue
		}
		got, r, ok := answered(t, b, p)
		if !ok || r.A != impl.ErNone || got.Name != "ten bytes."[:size] || got.Vers != b.Vers+1 || len(impl.PutPdu(r)) != 115+size {
			t.Errorf("%+v is answered by %+v, %v", p, r, ok)
		}
		if p.Id = 128; size == 5 {
			tooLarge(t, b, p)
		} else {
			answered(t, b, p)
		}
	}
}

// Where there are no bytes at all there is no room either.
func TestAnswersThatHaveNoBytes(t *testing.T) {
	b := setYard()
	for _, size := range []int{121, 200, 237, 250, 251, 300, 360} {
		l := bindsOfRoom(t, size)
		for _, kind := range []int{impl.RqGet, impl.RqNext, impl.RqSet} {
			tooLarge(t, b, impl.Pdu{Kind: kind, Id: 9, Binds: l})
		}
		for a := range 11 {
			_, r, ok := answered(t, b, impl.Pdu{Kind: impl.RqBulk, Id: 9, A: a, B: 1, Binds: l})
			if !ok || r.A != 0 || len(r.Binds) < 2 || !impl.Fits(r) {
				t.Errorf("of %d bytes: %+v, %v", size, r, ok)
			}
		}
	}
	tooLarge(t, b, setting(append([]impl.Bind{nameSet("new")}, bindsOfRoom(t, 100)...)...))
	tooLarge(t, b, setting(slices.Repeat([]impl.Bind{nameSet("ten bytes.")}, 6)...))
}

// Of many those that have no room are left out, from the last on; those that are once alone, too.
func TestManyWithoutRoom(t *testing.T) {
	b := quietYard()
	all := []string{`1.1 "yard"`, "1.2 21", "1.3 22", "1.4 23", "1.5 24", "2.1.1 0", "2.1.2 1", "2.1.3 1", "2.2.1 31"}
	tells(t, b, askingMany(0, 10, "0"), all[:8]...)
	b.Name = ""
	tells(t, b, askingMany(0, 10, "0"), append([]string{`1.1 ""`}, all[1:8]...)...)
	b.Name = "ten bytes."
	tells(t, b, askingMany(0, 10, "0"), append([]string{`1.1 "ten bytes."`}, all[1:7]...)...)
	ends := []string{".1.1", ".1.2", ".1.3", ".1.4", ".1.5", ".2.1.1", ".2.1.2", ".2.1.3", ".2.2.1", ".2.2.2"}
	tells(t, b, askingMany(10, 0, ends...), "1.2 21", "1.3 22", "1.4 23", "1.5 24", "2.1.1 0", "2.1.2 1", "2.1.3 1", "2.2.1 31")
	tells(t, b, askingMany(3, 1, ends...), "1.2 21", "1.3 22", "1.4 23", "1.5 24", "2.1.1 0", "2.1.2 1", "2.1.3 1", "2.2.1 31")
	long := askingMany(1, 5, "9")
	long.Binds = append(long.Binds, longBind(30))
	_, r, _ := answered(t, b, long)
	if len(r.Binds) != 3 {
		t.Errorf("%+v is answered by %+v", long, r)
	}
}

func TestBridgesThatAreNotAnsweredFor(t *testing.T) {
	right := 0
	for _, b := range append(otherBridges(yardOf(5, heardAt(impl.Vec{Root: 1, Bridge: 4}), silent(), down())), impl.Bridge{Id: 5}, impl.Bridge{Id: 5, Name: "yard", Ports: []impl.Pt{{}}}) {
		if rightBridge(b) {
			right++
			answered(t, b, asking(impl.RqGet, ".1.1"))
			continue
		}
		for _, kind := range pduKinds {
			notAnswered(t, b, asking(kind))
			notAnswered(t, b, asking(kind, ".1.1", "9"))
		}
		notAnswered(t, b, askingMany(1, 2, ".1.1", ".1.2"))
		notAnswered(t, b, setting(nameSet("new")))
		notAnswered(t, b, impl.Pdu{})
	}
	if right < 20 {
		t.Errorf("%d bridges were right", right)
	}
}

func TestAnswersAreNotAnswered(t *testing.T) {
	b := quietYard()
	notAnswered(t, b, asking(impl.RqRep))
	notAnswered(t, b, asking(impl.RqRep, ".1.1"))
	notAnswered(t, b, impl.Pdu{Kind: impl.RqRep, A: 3, B: 1, Binds: []impl.Bind{nameSet("new")}})
	for _, p := range []impl.Pdu{asking(impl.RqGet, ".1.1"), asking(impl.RqNext, "9"), askingMany(0, 3, "0"), setting(nameSet("new")), setting(nameSet("eleven-byte")), asking(impl.RqGet, slices.Repeat([]string{".1.1"}, 10)...)} {
		then, r, _ := answered(t, b, p)
		notAnswered(t, then, r)
	}
}

// wrongPdus are requests that are wrong in one thing each.
func wrongPdus() []impl.Pdu {
	var all []impl.Pdu
	for _, kind := range []int{impl.RqGet, impl.RqNext, impl.RqSet, impl.RqBulk} {
		right := impl.Pdu{Kind: kind, Id: 4, Binds: []impl.Bind{nameSet("new")}}
		change := func(make func(p *impl.Pdu)) {
			p := right
			p.Binds = []impl.Bind{copiedBind(right.Binds[0])}
			make(&p)
			all = append(all, p)
		}
		for _, id := range []int{math.MinInt32 - 1, math.MaxInt32 + 1, math.MinInt, math.MaxInt} {
			change(func(p *impl.Pdu) { p.Id = id })
		}
		for _, n := range []int{-1, 1001, 1<<32 + 1, math.MinInt, math.MaxInt} {
			change(func(p *impl.Pdu) { p.A = n })
			change(func(p *impl.Pdu) { p.B = n })
		}
		if kind != impl.RqBulk {
			change(func(p *impl.Pdu) { p.A = 1 })
			change(func(p *impl.Pdu) { p.B = 1 })
		}
		for _, o := range [][]int{nil, {}, {-1}, {100001}, {1, 3, 1, 1, -1}, slices.Repeat([]int{1}, 11)} {
			change(func(p *impl.Pdu) { p.Binds[0].O = o })
			change(func(p *impl.Pdu) { p.Binds[0].V = impl.Val{K: 6, O: o} })
		}
		for _, v := range []impl.Val{{}, {K: 1}, {K: 2, N: 1 << 31}, {K: 4, S: strings.Repeat("a", 21)}, {K: 5, N: 1}, {K: 2, S: "a"}, {K: 4, N: 1}, {K: 130, O: []int{1}}} {
			change(func(p *impl.Pdu) { p.Binds[0].V = v })
			change(func(p *impl.Pdu) { p.Binds = append(p.Binds, valSet(v, 9)) })
		}
		change(func(p *impl.Pdu) { p.Binds = slices.Repeat(p.Binds, 11) })
		change(func(p *impl.Pdu) { p.Binds = slices.Repeat([]impl.Bind{nullBind(9)}, 11) })
		change(func(p *impl.Pdu) { p.Binds = slices.Repeat(p.Binds, 3000) })
	}
	for _, kind := range []int{0, 1, -160, 159, 164, 166, 255, 1<<32 + 160, math.MinInt, math.MaxInt} {
		all = append(all, asking(kind), asking(kind, ".1.1"), setting(nameSet("new")))
		all[len(all)-1].Kind = kind
	}
	return append(all, impl.Pdu{})
}

func TestRequestsThatAreNotRight(t *testing.T) {
	for _, p := range wrongPdus() {
		if impl.PduOk(p) {
			t.Fatalf("PduOk(%+v) = true", p)
		}
		for _, b := range []impl.Bridge{setYard(), quietYard(), {}} {
			notAnswered(t, b, p)
		}
		if fitsAs(t, p) {
			t.Errorf("Fits(%+v) = true", p)
		}
	}
}

func TestWhatFits(t *testing.T) {
	for _, kind := range pduKinds {
		for _, c := range []struct{ id, head int }{{0, 13}, {127, 13}, {128, 14}, {-32768, 14}, {32768, 15}, {math.MaxInt32, 16}, {math.MinInt32, 16}} {
			for _, size := range []int{0, 7, 36, 118 - c.head, 119 - c.head, 120 - c.head, 121 - c.head, 122 - c.head, 234, 235, 236, 237, 238, 250, 251, 360} {
				p := impl.Pdu{Kind: kind, Id: c.id, Binds: bindsOfRoom(t, size)}
				if fits := fitsAs(t, p); fits != (size+c.head <= 120) {
					t.Errorf("Fits of %d bytes = %v", size+c.head, fits)
				}
			}
		}
	}
	for _, kind := range pairKinds {
		for _, c := range []struct{ a, b, head int }{{127, 127, 13}, {128, 0, 14}, {0, 128, 14}, {1000, 1000, 15}} {
			for _, size := range []int{119 - c.head, 120 - c.head, 121 - c.head} {
				p := impl.Pdu{Kind: kind, A: c.a, B: c.b, Binds: bindsOfRoom(t, size)}
				if fits := fitsAs(t, p); fits != (size+c.head <= 120) {
					t.Errorf("Fits of %d bytes = %v", size+c.head, fits)
				}
			}
		}
	}
	if fitsAs(t, impl.Pdu{}) || !fitsAs(t, impl.Pdu{Kind: 162, A: 1000, B: 1000}) || fitsAs(t, impl.Pdu{Kind: 162, A: 1001}) || fitsAs(t, impl.Pdu{Kind: 162, Binds: slices.Repeat([]impl.Bind{nullBind(9)}, 11)}) {
		t.Error("Fits of small ones")
	}
}

// All small requests of many: every A and B, and every short list of names.
func TestAllSmallRequestsOfMany(t *testing.T) {
	b := quietYard()
	names := [][]int{{0}, {1, 3, 1, 1, 4}, {1, 3, 1, 4, 1, 40, 20}, {9}}
	lists := [][]impl.Bind{nil}
	for at := 0; at < len(lists); at++ {
		for _, o := range names {
			if len(lists[at]) < 3 {
				lists = append(lists, append(slices.Clone(lists[at]), nullBind(o...)))
			}
		}
	}
	for _, l := range lists {
		for a := range 5 {
			for times := range 6 {
				answered(t, b, impl.Pdu{Kind: impl.RqBulk, Id: 4, A: a, B: times, Binds: l})
			}
		}
		for _, kind := range []int{impl.RqGet, impl.RqNext, impl.RqSet} {
			answered(t, b, impl.Pdu{Kind: kind, Id: 4, Binds: l})
		}
	}
}

// drawnRequest is a right request by a rule that draws numbers below a count.
func drawnRequest(b impl.Bridge, next func(count int) int) impl.Pdu {
	p := impl.Pdu{Kind: []int{impl.RqGet, impl.RqNext, impl.RqSet, impl.RqBulk}[next(4)], Id: next(300) - 150}
	things := impl.MibList(b)
	for range next(next(11) + 1) {
		x := drawnSet(b, next)
		if p.Kind != impl.RqSet {
			x = nullBind(things[next(len(things))].O...)
			switch next(6) {
			case 0:
				x.O = x.O[:1+next(len(x.O))]
			case 1:
				x.O[len(x.O)-1] += next(3)
			case 2:
				x.O = []int{next(10)}
			}
		}
		p.Binds = append(p.Binds, x)
	}
	if p.Kind == impl.RqBulk {
		p.A, p.B = next(4), next(next(30)+1)
	}
	return p
}

func TestRequestsByAFixedRule(t *testing.T) {
	next := drawing(19)
	codes, set := map[int]int{}, 0
	for range 300 {
		b := drawnBridge(next)
		for range 12 {
			p := drawnRequest(b, next)
			then, r, ok := answered(t, b, p)
			if !ok {
				t.Fatalf("%+v is not answered", p)
			}
			codes[r.A]++
			if !sameBridgeParts(then, b) {
				set++
			}
			b = then
		}
	}
	for _, code := range []int{impl.ErNone, impl.ErValue, impl.ErThere, impl.ErBoth, impl.ErBig} {
		if codes[code] < 20 {
			t.Errorf("the code %d was told %d times", code, codes[code])
		}
	}
	if set < 100 {
		t.Errorf("%d requests set something", set)
	}
}

// What RqBulk tells of one name is what RqNext tells of each of them, one by one.
func TestManyIsNextAgainAndAgain(t *testing.T) {
	next := drawing(91)
	for range 100 {
		b := drawnBridge(next)
		things := impl.MibList(b)
		from := things[next(len(things))].O
		_, many, _ := impl.ReplyOf(b, impl.Pdu{Kind: impl.RqBulk, B: 1000, Binds: []impl.Bind{nullBind(from...)}})
		if len(many.Binds) < 5 {
			t.Errorf("from %v on %+v is told", from, many)
		}
		for _, x := range many.Binds {
			_, one, _ := impl.ReplyOf(b, impl.Pdu{Kind: impl.RqNext, Binds: []impl.Bind{nullBind(from...)}})
			if !sameBindParts(one.Binds, []impl.Bind{x}) {
				t.Errorf("behind %v of %+v: %+v; want %+v", from, b, one, x)
			}
			from = x.O
		}
	}
}

// Nothing is kept from one call to another.
func TestAnswersHangOnWhatIsHandedInAlone(t *testing.T) {
	b, other := quietYard(), setYard()
	for range 3 {
		tells(t, b, asking(impl.RqGet, ".1.1"), `1.1 "yard"`)
		answered(t, other, setting(nameSet("new")))
		answered(t, other, setting(nameSet("eleven-byte")))
		answered(t, other, asking(impl.RqGet, slices.Repeat([]string{".1.1"}, 10)...))
		notAnswered(t, impl.Bridge{}, asking(impl.RqGet, ".1.1"))
	}
}

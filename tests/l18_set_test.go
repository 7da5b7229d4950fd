package tests

import (
	"math"
	"slices"
	"strings"
	"testing"

	"loop.example/g00326/impl"
)

func setText(s string) impl.Val { return impl.Val{K: 4, S: s} }

func setNumber(n int) impl.Val { return impl.Val{K: 2, N: n} }

// nameSet and numSet are binds, the second of a name behind 1.3.1.
func nameSet(s string) impl.Bind { return impl.Bind{O: []int{1, 3, 1, 1, 1}, V: setText(s)} }

func numSet(n int, name ...int) impl.Bind { return valSet(setNumber(n), name...) }

func valSet(v impl.Val, name ...int) impl.Bind {
	return impl.Bind{O: append([]int{1, 3, 1}, name...), V: v}
}

// canBeSet and the models below say the document's words once more, plainly: which thing a name
// is of those that can be set, and its port, its row's place or its Id.
func canBeSet(b impl.Bridge, o []int) (string, int) {
	is := func(name ...int) bool { return slices.Equal(o, append([]int{1, 3, 1}, name...)) }
	if is(1, 1) {
		return "name", 0
	}
	for port := range b.Ports {
		if is(2, 2, port+1) {
			return "cost", port
		}
		if is(2, 4, port+1) {
			return "pvid", port
		}
	}
	for place, r := range b.V.Rows {
		if is(3, 2, r.Id) {
			return "members", place
		}
		if is(3, 3, r.Id) {
			return "bare", place
		}
	}
	if len(o) == 6 && is(3, 1, o[5]) && o[5] >= 1 && o[5] <= 99 {
		return "row", o[5]
	}
	return "", 0
}

// canBeToldAlone is of the names of things that cannot be set.
func canBeToldAlone(b impl.Bridge, o []int) bool {
	is := func(name ...int) bool { return slices.Equal(o, append([]int{1, 3, 1}, name...)) }
	for port := range b.Ports {
		if is(2, 1, port+1) || is(2, 3, port+1) {
			return true
		}
	}
	for _, e := range b.F {
		if is(4, 1, e.Tag, e.Mac) {
			return true
		}
	}
	return is(1, 2) || is(1, 3) || is(1, 4) || is(1, 5)
}

// wantRowSet makes the row, or takes it away, and answers whether it could.
func wantRowSet(v impl.Vtab, id int, n int) (impl.Vtab, bool) {
	there := slices.ContainsFunc(v.Rows, func(r impl.Vrow) bool { return r.Id == id })
	if n == 6 && there {
		v.Rows = slices.DeleteFunc(v.Rows, func(r impl.Vrow) bool { return r.Id == id })
		return v, true
	}
	if n == 4 && !there && len(v.Rows) < 6 {
		v.Rows = append(v.Rows, impl.Vrow{Id: id})
		slices.SortFunc(v.Rows, func(a impl.Vrow, b impl.Vrow) int { return a.Id - b.Id })
		return v, true
	}
	return v, false
}

// wantSet does not ask whether the bridge is right.
func wantSet(b impl.Bridge, x impl.Bind) (impl.Bridge, int) {
	what, at := canBeSet(b, x.O)
	switch {
	case what == "" && canBeToldAlone(b, x.O):
		return b, 4
	case what == "":
		return b, 3
	case what == "name" && x.V.K != 4 || what != "name" && x.V.K != 2:
		return b, 1
	}
	to, ok := copiedBridge(b), true
	switch what {
	case "name":
		to.Name, ok = x.V.S, len(x.V.S) <= 10
	case "cost":
		to.Ports[at].Cost, ok = x.V.N, x.V.N >= 1 && x.V.N <= 1000
	case "pvid":
		to.V.Pvid[at] = x.V.N
	case "row":
		to.V, ok = wantRowSet(to.V, at, x.V.N)
	case "members":
		to.V.Rows[at].Members, ok = x.V.N, x.V.N >= 0 && x.V.N < 1<<len(b.Ports)
	case "bare":
		to.V.Rows[at].Bare, ok = x.V.N, x.V.N >= 0 && x.V.N < 1<<len(b.Ports)
	}
	if !ok {
		return b, 2
	}
	return to, 0
}

func wantOne(b impl.Bridge, x impl.Bind) (impl.Bridge, int) {
	if !rightBridge(b) {
		return b, 3
	}
	return wantSet(b, x)
}

func wantAll(b impl.Bridge, l []impl.Bind) (impl.Bridge, int, int) {
	if len(l) == 0 {
		return b, 0, 0
	}
	if !rightBridge(b) {
		return b, 3, 1
	}
	to := b
	for i, x := range l {
		for _, ahead := range l[:i] {
			if slices.Equal(ahead.O, x.O) {
				return b, 5, i + 1
			}
		}
		next, code := wantSet(to, x)
		if code != 0 {
			return b, code, i + 1
		}
		to = next
	}
	if !rightVtab(to.V, len(to.Ports)) {
		return b, 5, len(l)
	}
	return wantTurned(to), 0, 0
}

// bindsHandedTo hands binds to a call, with spare room behind the list and behind each name, and wants nothing written there.
func bindsHandedTo(t *testing.T, l []impl.Bind, call func(l []impl.Bind)) {
	t.Helper()
	spare := impl.Bind{O: []int{-7}, V: setNumber(-7)}
	room := make([]impl.Bind, 0, len(l)+1)
	for _, x := range l {
		x.O = append(slices.Clone(x.O), -7)[:len(x.O)]
		x.V.O = append(slices.Clone(x.V.O), -7)[:len(x.V.O)]
		room = append(room, x)
	}
	room = append(room, spare)
	call(room[:len(l)])
	if !sameBindParts(room, append(slices.Clone(l), spare)) {
		t.Fatalf("the binds %+v were written: %+v", l, room)
	}
	for _, x := range room[:len(l)] {
		if x.O[:len(x.O)+1][len(x.O)] != -7 || x.V.O[:len(x.V.O)+1][len(x.V.O)] != -7 {
			t.Fatalf("behind the name, or the value, of %+v something was written", x)
		}
	}
}

// setsOne wants SetOne to answer as its model does, and of what is refused the bridge as it was.
func setsOne(t *testing.T, b impl.Bridge, x impl.Bind) (impl.Bridge, int) {
	t.Helper()
	want, wantCode := wantOne(b, x)
	got := handedTo(t, b, func(b impl.Bridge) impl.Bridge {
		var to impl.Bridge
		bindsHandedTo(t, []impl.Bind{x}, func(l []impl.Bind) {
			made, code := impl.SetOne(b, l[0])
			if code != wantCode {
				t.Errorf("SetOne(%+v, %+v) tells %d; want %d", b, x, code, wantCode)
			}
			to = made
		})
		return to
	})
	if !sameBridgeParts(got, want) || wantCode != 0 && !sameBridgeParts(got, b) {
		t.Errorf("SetOne(%+v, %+v) = %+v; want %+v", b, x, got, want)
	}
	return got, wantCode
}

// setsAll wants SetAll to answer as its model does, and the promise of it.
func setsAll(t *testing.T, b impl.Bridge, l []impl.Bind) (impl.Bridge, int, int) {
	t.Helper()
	want, wantCode, wantPlace := wantAll(b, l)
	got := handedTo(t, b, func(b impl.Bridge) impl.Bridge {
		var to impl.Bridge
		bindsHandedTo(t, l, func(l []impl.Bind) {
			made, code, place := impl.SetAll(b, l)
			if code != wantCode || place != wantPlace {
				t.Errorf("SetAll(%+v, %+v) tells %d at %d; want %d at %d", b, l, code, place, wantCode, wantPlace)
			}
			to = made
		})
		return to
	})
	if !sameBridgeParts(got, want) {
		t.Errorf("SetAll(%+v, %+v) = %+v; want %+v", b, l, got, want)
	}
	if wantCode != 0 || len(l) == 0 {
		if !sameBridgeParts(got, b) || !impl.SameBridge(got, b) {
			t.Errorf("what is refused changes %+v: %+v", b, got)
		}
		return got, wantCode, wantPlace
	}
	nobodyLeft(t, got)
	if !impl.BridgeOk(got) {
		t.Errorf("SetAll(%+v, %+v) = %+v: it is not right", b, l, got)
	}
	toldAsSet(t, got, l)
	return got, wantCode, wantPlace
}

// toldAsSet wants what was set to be told by MibGet: of a row whether it is there.
func toldAsSet(t *testing.T, b impl.Bridge, l []impl.Bind) {
	t.Helper()
	for _, x := range l {
		want := impl.Val{K: x.V.K, N: x.V.N}
		switch {
		case x.V.K == 4:
			want = setText(x.V.S)
		case x.O[3] == 3 && x.O[4] == 1 && x.V.N == 4:
			want = setNumber(1)
		case x.O[3] == 3 && x.O[4] == 1:
			want = impl.Val{K: 128}
		case slices.ContainsFunc(l, func(y impl.Bind) bool {
			return x.O[3] == 3 && slices.Equal(y.O, []int{1, 3, 1, 3, 1, x.O[5]}) && y.V.N == 6
		}):
			want = impl.Val{K: 128}
		}
		if v := impl.MibGet(b, x.O); !sameParts(v, want) {
			t.Errorf("behind %+v MibGet tells %+v of %v; want %+v", l, v, x.O, want)
		}
	}
}

// oneIs wants SetOne to tell a code, written out.
func oneIs(t *testing.T, b impl.Bridge, code int, x impl.Bind) impl.Bridge {
	t.Helper()
	got, told := setsOne(t, b, x)
	if told != code {
		t.Errorf("SetOne(%+v, %+v) tells %d; want %d", b, x, told, code)
	}
	return got
}

// allIs wants SetAll to tell a code and a place, written out.
func allIs(t *testing.T, b impl.Bridge, code int, place int, l ...impl.Bind) impl.Bridge {
	t.Helper()
	got, told, at := setsAll(t, b, l)
	if told != code || at != place {
		t.Errorf("SetAll(%+v, %+v) tells %d at %d; want %d at %d", b, l, told, at, code, place)
	}
	return got
}

// oneMakes wants SetOne to make just this of b, and nothing else: it does not turn.
func oneMakes(t *testing.T, b impl.Bridge, x impl.Bind, make func(b *impl.Bridge)) impl.Bridge {
	t.Helper()
	want := copiedBridge(b)
	make(&want)
	got := oneIs(t, b, impl.ErNone, x)
	if !sameBridgeParts(got, want) {
		t.Errorf("SetOne(%+v, %+v) = %+v; want %+v", b, x, got, want)
	}
	return got
}

// allMakes wants SetAll to make this of b, and to turn it.
func allMakes(t *testing.T, b impl.Bridge, make func(b *impl.Bridge), l ...impl.Bind) impl.Bridge {
	t.Helper()
	want := copiedBridge(b)
	make(&want)
	want.Vers = min(want.Vers+1, 1000000)
	got := allIs(t, b, impl.ErNone, 0, l...)
	if !sameBridgeParts(got, want) {
		t.Errorf("SetAll(%+v, %+v) = %+v; want %+v", b, l, got, want)
	}
	return got
}

// setYard has three ports that send, three rows and room for three more.
func setYard() impl.Bridge {
	b := yardOf(7, silent(), silent(), silent())
	b.V.Rows = []impl.Vrow{{Id: 1, Members: 7, Bare: 7}, {Id: 20, Members: 5, Bare: 4}, {Id: 40, Members: 6, Bare: 2}}
	b.V.Pvid = []int{1, 1, 40}
	return b
}

func TestSetConstants(t *testing.T) {
	got := []int{impl.ErNone, impl.ErType, impl.ErValue, impl.ErThere, impl.ErWrite, impl.ErBoth, impl.ErCommit, impl.ErBig}
	if !slices.Equal(got, []int{0, 1, 2, 3, 4, 5, 6, 7}) {
		t.Errorf("the codes are %v", got)
	}
}

func TestEachThingThatCanBeSet(t *testing.T) {
	b := setYard()
	oneMakes(t, b, nameSet("new"), func(b *impl.Bridge) { b.Name = "new" })
	oneMakes(t, b, numSet(7, 2, 2, 1), func(b *impl.Bridge) { b.Ports[0].Cost = 7 })
	oneMakes(t, b, numSet(700, 2, 2, 3), func(b *impl.Bridge) { b.Ports[2].Cost = 700 })
	oneMakes(t, b, numSet(20, 2, 4, 1), func(b *impl.Bridge) { b.V.Pvid[0] = 20 })
	oneMakes(t, b, numSet(1, 2, 4, 3), func(b *impl.Bridge) { b.V.Pvid[2] = 1 })
	oneMakes(t, b, numSet(4, 3, 1, 30), func(b *impl.Bridge) { b.V.Rows = slices.Insert(b.V.Rows, 2, impl.Vrow{Id: 30}) })
	oneMakes(t, b, numSet(4, 3, 1, 2), func(b *impl.Bridge) { b.V.Rows = slices.Insert(b.V.Rows, 1, impl.Vrow{Id: 2}) })
	oneMakes(t, b, numSet(4, 3, 1, 99), func(b *impl.Bridge) { b.V.Rows = append(b.V.Rows, impl.Vrow{Id: 99}) })
	oneMakes(t, b, numSet(6, 3, 1, 20), func(b *impl.Bridge) { b.V.Rows = slices.Delete(b.V.Rows, 1, 2) })
	oneMakes(t, b, numSet(7, 3, 2, 20), func(b *impl.Bridge) { b.V.Rows[1].Members = 7 })
	oneMakes(t, b, numSet(4, 3, 3, 40), func(b *impl.Bridge) { b.V.Rows[2].Bare = 4 })
	oneMakes(t, b, numSet(6, 3, 2, 40), func(b *impl.Bridge) {})
}

func TestSomeThingsSetAtOnce(t *testing.T) {
	b := setYard()
	allMakes(t, b, func(b *impl.Bridge) {
		b.Name = "other"
		b.Ports[1].Cost = 1000
		b.V.Rows = []impl.Vrow{{Id: 1, Members: 7}, {Id: 30, Members: 3, Bare: 1}, {Id: 40, Members: 6, Bare: 2}}
		b.V.Pvid[1] = 30
	}, numSet(30, 2, 4, 2), numSet(6, 3, 1, 20), numSet(4, 3, 1, 30), numSet(1, 3, 3, 30), nameSet("other"), numSet(3, 3, 2, 30), numSet(0, 3, 3, 1), numSet(1000, 2, 2, 2))
	for _, x := range []impl.Bind{nameSet("a"), numSet(9, 2, 2, 2), numSet(20, 2, 4, 2), numSet(4, 3, 1, 5), numSet(6, 3, 1, 20), numSet(7, 3, 2, 20), numSet(1, 3, 3, 20)} {
		made := oneIs(t, b, impl.ErNone, x)
		allMakes(t, b, func(b *impl.Bridge) { *b = copiedBridge(made) }, x)
	}
}

// Whoever is in the way of a name: nowhere, or only told, then the kind, then the worth.
func TestTheFirstCodeThatHolds(t *testing.T) {
	b := setYard()
	nowhere := [][]int{{1, 6}, {1, 0}, {2, 2, 4}, {2, 4, 0}, {2, 5, 1}, {3, 1, 0}, {3, 1, 100}, {3, 2, 2}, {3, 3, 30}, {3, 4, 1}, {4, 1, 1, 9}, {4, 1, 2, 10}, {5, 1}}
	told := [][]int{{1, 2}, {1, 3}, {1, 4}, {1, 5}, {2, 1, 1}, {2, 1, 3}, {2, 3, 1}, {2, 3, 3}, {4, 1, 1, 10}, {4, 1, 20, 12}}
	numbers := [][]int{{2, 2, 1}, {3, 1, 20}, {3, 1, 50}, {3, 2, 20}, {3, 3, 20}}
	for _, v := range []impl.Val{{}, {K: 5}, setNumber(4), setNumber(-1), setText("a"), setText("eleven-byte"), {K: 6, O: []int{1}}, {K: 128}, {K: 130}, {K: 7, N: 3, S: "x", O: []int{-1}}} {
		for _, name := range nowhere {
			oneIs(t, b, impl.ErThere, valSet(v, name...))
		}
		for _, name := range told {
			oneIs(t, b, impl.ErWrite, valSet(v, name...))
		}
		for _, name := range append(numbers, []int{2, 4, 1}) {
			if v.K != impl.VInt {
				oneIs(t, b, impl.ErType, valSet(v, name...))
			}
		}
		if v.K != impl.VText {
			oneIs(t, b, impl.ErType, valSet(v, 1, 1))
		}
	}
	oneIs(t, b, impl.ErValue, nameSet("eleven-byte"))
	for _, name := range numbers {
		oneIs(t, b, impl.ErValue, numSet(-1, name...))
	}
}

func TestNamesThatAreSet(t *testing.T) {
	b := setYard()
	for _, name := range []string{"", "a", "nine byte", "ten bytes.", "12", strings.Repeat("\x00", 10), strings.Repeat("\xff", 10), strings.Repeat("é", 5)} {
		oneMakes(t, b, nameSet(name), func(b *impl.Bridge) { b.Name = name })
		allMakes(t, b, func(b *impl.Bridge) { b.Name = name }, nameSet(name))
	}
	for _, name := range []string{"eleven-byte", strings.Repeat("é", 5) + "a", "€€€€", strings.Repeat("a", 20), strings.Repeat("a", 21), strings.Repeat("\x00", 5000)} {
		oneIs(t, b, impl.ErValue, nameSet(name))
		allIs(t, b, impl.ErValue, 1, nameSet(name))
	}
}

func TestCostsThatAreSet(t *testing.T) {
	b := setYard()
	for port := range 3 {
		for _, n := range []int{1, 2, 999, 1000} {
			oneMakes(t, b, numSet(n, 2, 2, port+1), func(b *impl.Bridge) { b.Ports[port].Cost = n })
			allMakes(t, b, func(b *impl.Bridge) { b.Ports[port].Cost = n }, numSet(n, 2, 2, port+1))
		}
		for _, n := range []int{0, -1, -1000, 1001, 1<<32 + 1, math.MaxInt, math.MinInt} {
			oneIs(t, b, impl.ErValue, numSet(n, 2, 2, port+1))
			allIs(t, b, impl.ErValue, 1, numSet(n, 2, 2, port+1))
		}
	}
}

// What was heard at a port stays there when its Cost is set.
func TestCostsOfPortsThatHeard(t *testing.T) {
	b := yardOf(7, heardAt(impl.Vec{Root: 1, Cost: 3, Hops: 2, Bridge: 4, Port: 5}), down())
	oneMakes(t, b, numSet(30, 2, 2, 1), func(b *impl.Bridge) { b.Ports[0].Cost = 30 })
	oneMakes(t, b, numSet(30, 2, 2, 2), func(b *impl.Bridge) { b.Ports[1].Cost = 30 })
}

// A Pvid may be any number, as long as the networks are not asked for.
func TestPvidsThatAreAskedToBeSet(t *testing.T) {
	b := setYard()
	for port := range 3 {
		for _, n := range []int{1, 20, 40, 0, -1, 2, 41, 99, 100, 1<<32 + 1, math.MaxInt, math.MinInt} {
			got := oneMakes(t, b, numSet(n, 2, 4, port+1), func(b *impl.Bridge) { b.V.Pvid[port] = n })
			if right := n == 1 || n == 20 || n == 40; right {
				allMakes(t, b, func(b *impl.Bridge) { b.V.Pvid[port] = n }, numSet(n, 2, 4, port+1))
			} else if allIs(t, b, impl.ErBoth, 1, numSet(n, 2, 4, port+1)); impl.BridgeOk(got) {
				t.Errorf("a Pvid of %d: %+v is right", n, got)
			}
		}
	}
}

// The number of a port is one more than its place.
func TestPortsThatAreSet(t *testing.T) {
	for ports := 1; ports <= 6; ports++ {
		b := impl.BridgeNew(7, ports)
		for number := -1; number <= 8; number++ {
			if number >= 1 && number <= ports {
				oneMakes(t, b, numSet(9, 2, 2, number), func(b *impl.Bridge) { b.Ports[number-1].Cost = 9 })
				oneMakes(t, b, numSet(9, 2, 4, number), func(b *impl.Bridge) { b.V.Pvid[number-1] = 9 })
				oneIs(t, b, impl.ErWrite, numSet(1, 2, 1, number))
				oneIs(t, b, impl.ErWrite, numSet(1, 2, 3, number))
			} else {
				for column := range 6 {
					oneIs(t, b, impl.ErThere, numSet(1, 2, column, number))
				}
			}
		}
		for _, number := range []int{math.MinInt, math.MinInt + 1, math.MaxInt, 1<<32 + 1, 64, 65} {
			for column := range 6 {
				oneIs(t, b, impl.ErThere, numSet(1, 2, column, number))
			}
		}
	}
}

func TestRowsThatAreMadeOrGo(t *testing.T) {
	b := setYard()
	b.V.Rows = []impl.Vrow{{Id: 1, Members: 7, Bare: 7}, {Id: 98, Members: 5, Bare: 4}}
	b.V.Pvid = []int{1, 98, 1}
	for id := 1; id <= 99; id++ {
		there := id == 1 || id == 98
		for _, n := range []int{math.MinInt, -1, 0, 1, 2, 3, 4, 5, 6, 7, 1<<32 + 4, math.MaxInt} {
			code := impl.ErValue
			if n == 4 && !there || n == 6 && there {
				code = impl.ErNone
			}
			got := oneIs(t, b, code, numSet(n, 3, 1, id))
			if at := impl.RowAt(got.V, id); (at >= 0) != (there && n != 6 || !there && n == 4) {
				t.Errorf("the row %d set to %d: %+v", id, n, got.V)
			} else if !there && n == 4 && got.V.Rows[at] != (impl.Vrow{Id: id}) {
				t.Errorf("the row %d was made: %+v", id, got.V)
			}
		}
	}
	for _, id := range []int{math.MinInt, -1, 0, 100, 101, 1<<32 + 1, math.MaxInt} {
		for _, n := range []int{4, 6, 1} {
			oneIs(t, b, impl.ErThere, numSet(n, 3, 1, id))
		}
	}
}

// There is room for MaxVlans rows, and the last one may go, too.
func TestRoomForRows(t *testing.T) {
	for rows := 1; rows <= 6; rows++ {
		b := impl.BridgeNew(7, 3)
		b.V = tensVtab(3, rows)
		for _, id := range []int{1, 9, 11, 25, 61, 99} {
			if rows < 6 {
				got := oneIs(t, b, impl.ErNone, numSet(4, 3, 1, id))
				if len(got.V.Rows) != rows+1 || !impl.BridgeOk(got) {
					t.Errorf("%d rows, and %d: %+v", rows, id, got)
				}
				allIs(t, b, impl.ErNone, 0, numSet(4, 3, 1, id))
			} else {
				oneIs(t, b, impl.ErValue, numSet(4, 3, 1, id))
				allIs(t, b, impl.ErValue, 1, numSet(4, 3, 1, id))
				allIs(t, b, impl.ErValue, 1, numSet(4, 3, 1, id), numSet(6, 3, 1, 20))
				allIs(t, b, impl.ErNone, 0, numSet(6, 3, 1, 20), numSet(4, 3, 1, id))
				allIs(t, b, impl.ErValue, 3, numSet(6, 3, 1, 20), numSet(4, 3, 1, id), numSet(4, 3, 1, 77))
			}
			oneIs(t, b, impl.ErValue, numSet(6, 3, 1, id))
		}
		for i := range rows {
			got := oneIs(t, b, impl.ErNone, numSet(6, 3, 1, 10+10*i))
			if len(got.V.Rows) != rows-1 || impl.BridgeOk(got) != (i > 0) {
				t.Errorf("%d rows, and %d goes: %+v", rows, 10+10*i, got)
			}
			oneIs(t, b, impl.ErValue, numSet(4, 3, 1, 10+10*i))
		}
	}
	b := impl.BridgeNew(7, 3)
	b.V = tensVtab(3, 5)
	allIs(t, b, impl.ErNone, 0, numSet(4, 3, 1, 7))
	allIs(t, b, impl.ErValue, 2, numSet(4, 3, 1, 7), numSet(4, 3, 1, 8))
	b.V = tensVtab(3, 1)
	allIs(t, b, impl.ErBoth, 1, numSet(6, 3, 1, 10))
}

func TestMembersAndBareThatAreSet(t *testing.T) {
	for ports := 1; ports <= 6; ports++ {
		b := impl.BridgeNew(7, ports)
		b.V.Rows = append(b.V.Rows, impl.Vrow{Id: 5, Members: 1, Bare: 1})
		all := 1<<ports - 1
		for _, n := range []int{0, 1, all - 1, all} {
			oneMakes(t, b, numSet(n, 3, 2, 5), func(b *impl.Bridge) { b.V.Rows[1].Members = n })
			oneMakes(t, b, numSet(n, 3, 2, 1), func(b *impl.Bridge) { b.V.Rows[0].Members = n })
			oneMakes(t, b, numSet(n, 3, 3, 5), func(b *impl.Bridge) { b.V.Rows[1].Bare = n })
			oneMakes(t, b, numSet(n, 3, 3, 1), func(b *impl.Bridge) { b.V.Rows[0].Bare = n })
			allIs(t, b, impl.ErNone, 0, numSet(n, 3, 2, 5), numSet(n, 3, 3, 5))
			allIs(t, b, impl.ErNone, 0, numSet(n, 3, 3, 5), numSet(n, 3, 2, 5))
		}
		for _, n := range []int{-1, -all - 1, all + 1, all + 2, 2*all + 1, 1 << 32, math.MinInt, math.MaxInt} {
			for _, x := range []impl.Bind{numSet(n, 3, 2, 5), numSet(n, 3, 2, 1), numSet(n, 3, 3, 5), numSet(n, 3, 3, 1)} {
				oneIs(t, b, impl.ErValue, x)
				allIs(t, b, impl.ErValue, 1, x)
			}
		}
		for _, id := range []int{math.MinInt, -1, 0, 2, 4, 6, 99, 100, math.MaxInt} {
			oneIs(t, b, impl.ErThere, numSet(1, 3, 2, id))
			oneIs(t, b, impl.ErThere, numSet(1, 3, 3, id))
		}
	}
}

// What one bind makes need not be right in itself; where it is the last, SetAll refuses it.
func TestWhatOneMakesNeedNotBeRight(t *testing.T) {
	b := setYard()
	for _, x := range []impl.Bind{numSet(2, 2, 4, 1), numSet(-5, 2, 4, 3), numSet(6, 3, 1, 1), numSet(6, 3, 1, 40), numSet(3, 3, 2, 1), numSet(0, 3, 2, 20), numSet(7, 3, 3, 20), numSet(2, 3, 3, 20)} {
		if got := oneIs(t, b, impl.ErNone, x); impl.BridgeOk(got) || rightBridge(got) {
			t.Errorf("%+v makes %+v", x, got)
		}
		allIs(t, b, impl.ErBoth, 1, x)
		allIs(t, b, impl.ErBoth, 2, x, nameSet("a"))
		allIs(t, b, impl.ErBoth, 3, nameSet("a"), x, numSet(9, 2, 2, 1))
	}
}

// What its kind does not name is not looked at in a value; nor need it be a right one.
func TestValuesThatAreNotRight(t *testing.T) {
	b := setYard()
	oneMakes(t, b, valSet(impl.Val{K: 4, N: -5, S: "a", O: []int{-1}}, 1, 1), func(b *impl.Bridge) { b.Name = "a" })
	oneMakes(t, b, valSet(impl.Val{K: 2, N: 5, S: strings.Repeat("a", 30), O: []int{1 << 40}}, 2, 2, 2), func(b *impl.Bridge) { b.Ports[1].Cost = 5 })
	oneMakes(t, b, valSet(impl.Val{K: 2, N: 4, S: "a"}, 3, 1, 8), func(b *impl.Bridge) { b.V.Rows = slices.Insert(b.V.Rows, 1, impl.Vrow{Id: 8}) })
	allMakes(t, b, func(b *impl.Bridge) { b.Name, b.Ports[0].Cost = "b", 8 }, valSet(impl.Val{K: 4, N: 9, S: "b"}, 1, 1), valSet(impl.Val{K: 2, N: 8, O: []int{}}, 2, 2, 1))
	for kind := -1; kind <= 200; kind++ {
		v := impl.Val{K: kind, N: 4, S: "4", O: []int{4}}
		text, number := impl.ErType, impl.ErType
		if kind == 4 {
			text = impl.ErNone
		}
		if kind == 2 {
			number = impl.ErNone
		}
		oneIs(t, b, text, valSet(v, 1, 1))
		for _, name := range [][]int{{2, 2, 1}, {2, 4, 1}, {3, 1, 50}, {3, 2, 20}, {3, 3, 20}} {
			oneIs(t, b, number, valSet(v, name...))
		}
		oneIs(t, b, impl.ErWrite, valSet(v, 1, 2))
		oneIs(t, b, impl.ErThere, valSet(v, 1))
	}
	for _, kind := range []int{math.MinInt, 1 << 32, 1<<32 + 2, 1<<32 + 4, math.MaxInt} {
		oneIs(t, b, impl.ErType, valSet(impl.Val{K: kind, N: 4, S: "4"}, 1, 1))
		oneIs(t, b, impl.ErType, valSet(impl.Val{K: kind, N: 4, S: "4"}, 2, 2, 1))
	}
}

// All names that are there, and all about them: each is set, only told, or nowhere.
func TestNamesAboutThoseThatAreThere(t *testing.T) {
	for _, b := range []impl.Bridge{setYard(), impl.BridgeNew(1, 1), yardOf(5, silent(), down())} {
		all := strayNames()
		for _, x := range impl.MibList(b) {
			all = append(all, about(x.O)...)
		}
		for _, o := range all {
			there := slices.ContainsFunc(impl.MibList(b), func(x impl.Bind) bool { return slices.Equal(x.O, o) })
			for _, v := range []impl.Val{setNumber(4), setNumber(1), setText("a")} {
				_, code := setsOne(t, b, impl.Bind{O: o, V: v})
				_, allCode, _ := setsAll(t, b, []impl.Bind{{O: o, V: v}})
				if allCode != code && allCode != impl.ErBoth || code == impl.ErThere && there || code == impl.ErWrite && !there {
					t.Errorf("%v of %+v set to %+v: %d and %d", o, b, v, code, allCode)
				}
			}
		}
	}
}

// The beginning of a name, what goes on from one, and one without numbers are nowhere.
func TestNamesThatAreNowhere(t *testing.T) {
	b := setYard()
	for _, o := range [][]int{nil, {}, {1}, {1, 3}, {1, 3, 1}, {1, 3, 1, 1}, {1, 3, 1, 1, 1, 0}, {1, 3, 1, 1, 1, 1}, {1, 3, 1, 1, 2, 0}, {1, 3, 1, 2}, {1, 3, 1, 2, 2}, {1, 3, 1, 2, 2, 1, 1}, {1, 3, 1, 3, 1}, {1, 3, 1, 3, 1, 20, 0}, {1, 3, 1, 4, 1, 1}, {1, 3, 1, 4, 1, 1, 10, 0}, {1, 3, 2, 1, 1}, {1, 2, 1, 1, 1}, {2, 3, 1, 1, 1}, {2, 3, 1, 2, 2, 1}, {1, 2, 1, 2, 2, 1}, {1, 3, 0, 2, 2, 1}, {1, 3, 1, -2, 2, 1}, {-1}, {math.MinInt, math.MaxInt}, slices.Repeat([]int{1}, 11), append([]int{1, 3, 1, 1, 1}, make([]int, 300)...)} {
		for _, v := range []impl.Val{setNumber(4), setText("a"), {K: 5}} {
			oneIs(t, b, impl.ErThere, impl.Bind{O: o, V: v})
			allIs(t, b, impl.ErThere, 1, impl.Bind{O: o, V: v})
			allIs(t, b, impl.ErThere, 2, nameSet("a"), impl.Bind{O: o, V: v})
		}
	}
}

// Of none at all nothing is asked, not even whether the bridge is right; it does not turn.
func TestNothingIsSet(t *testing.T) {
	left := setYard()
	left.Ports[1] = down()
	for _, b := range []impl.Bridge{setYard(), left, {}, {Id: 100, Name: "eleven-byte", Ports: []impl.Pt{{}}, F: []impl.Fent{{}}, V: impl.Vtab{Rows: []impl.Vrow{{}}, Pvid: []int{7, 8}}}} {
		for _, none := range [][]impl.Bind{nil, {}} {
			got, code, place := setsAll(t, b, none)
			if code != impl.ErNone || place != 0 || !sameBridgeParts(got, b) {
				t.Errorf("of %+v nothing is set: %+v, %d, %d", b, got, code, place)
			}
		}
	}
}

func TestBridgesThatCannotBeSet(t *testing.T) {
	set := 0
	for _, b := range []impl.Bridge{{}, {Id: 5}, setYard(), yardOf(5, heardAt(impl.Vec{Root: 1, Bridge: 4}), silent(), down())} {
		for _, x := range append(otherBridgesIfAny(b), b) {
			code := impl.ErThere
			if rightBridge(x) {
				code = impl.ErNone
				set++
			}
			oneIs(t, x, code, nameSet("a"))
			allIs(t, x, code, min(code, 1), nameSet("a"))
			if code == impl.ErNone {
				continue
			}
			for _, y := range []impl.Bind{nameSet("eleven-byte"), numSet(1, 1, 1), numSet(5, 1, 2), numSet(0, 2, 2, 1), numSet(1, 2, 1, 1), numSet(4, 3, 1, 9), numSet(1, 4, 1, 1, 10), {}} {
				oneIs(t, x, impl.ErThere, y)
				allIs(t, x, impl.ErThere, 1, y)
				allIs(t, x, impl.ErThere, 1, nameSet("a"), nameSet("a"), y)
			}
		}
	}
	if set < 20 {
		t.Errorf("%d bridges were set", set)
	}
}

func otherBridgesIfAny(b impl.Bridge) []impl.Bridge {
	if len(b.Ports) == 0 {
		return nil
	}
	return otherBridges(b)
}

// Networks that are not right are refused ahead of all binds, also where these would mend them.
func TestNetworksThatAreNotRightAhead(t *testing.T) {
	b := setYard()
	b.V.Pvid[0] = 2
	allIs(t, b, impl.ErThere, 1, numSet(4, 3, 1, 2))
	allIs(t, b, impl.ErThere, 1, numSet(1, 2, 4, 1))
	oneIs(t, b, impl.ErThere, numSet(1, 2, 4, 1))
	b = setYard()
	b.V.Rows[1].Bare = 2
	allIs(t, b, impl.ErThere, 1, numSet(0, 3, 3, 20))
	b = setYard()
	b.Ports[0].Cost = 0
	allIs(t, b, impl.ErThere, 1, numSet(1, 2, 2, 1))
	oneIs(t, b, impl.ErThere, numSet(1, 2, 2, 1))
}

// Each bind is asked of what those ahead of it made.
func TestBindsInTheirOrder(t *testing.T) {
	b := setYard()
	made, members, bare, pvid := numSet(4, 3, 1, 30), numSet(3, 3, 2, 30), numSet(2, 3, 3, 30), numSet(30, 2, 4, 1)
	whole := func(b *impl.Bridge) {
		b.V.Rows = slices.Insert(b.V.Rows, 2, impl.Vrow{Id: 30, Members: 3, Bare: 2})
		b.V.Pvid[0] = 30
	}
	allMakes(t, b, whole, made, members, bare, pvid)
	allMakes(t, b, whole, made, bare, pvid, members)
	allMakes(t, b, whole, pvid, made, bare, members)
	allIs(t, b, impl.ErThere, 1, members, made)
	allIs(t, b, impl.ErThere, 1, bare, made, members)
	allIs(t, b, impl.ErThere, 2, pvid, members, made)
	allIs(t, b, impl.ErThere, 3, nameSet("a"), pvid, bare, made)
	allIs(t, b, impl.ErBoth, 2, made, bare)
	allIs(t, b, impl.ErBoth, 1, pvid)
	allMakes(t, b, func(b *impl.Bridge) { b.V.Rows = slices.Insert(b.V.Rows, 2, impl.Vrow{Id: 30}) }, made)
	gone := numSet(6, 3, 1, 40)
	allIs(t, b, impl.ErBoth, 1, gone)
	allIs(t, b, impl.ErThere, 2, gone, numSet(7, 3, 2, 40))
	allIs(t, b, impl.ErThere, 2, gone, numSet(0, 3, 3, 40), numSet(1, 2, 4, 3))
	without := func(b *impl.Bridge) { b.V.Rows, b.V.Pvid[2] = b.V.Rows[:2], 1 }
	allMakes(t, b, without, gone, numSet(1, 2, 4, 3))
	allMakes(t, b, without, numSet(1, 2, 4, 3), gone)
	allMakes(t, b, without, numSet(7, 3, 2, 40), numSet(1, 2, 4, 3), gone)
	allMakes(t, b, func(b *impl.Bridge) {
		b.V.Rows[0], b.V.Rows[1] = impl.Vrow{Id: 1, Members: 3, Bare: 1}, impl.Vrow{Id: 20, Members: 7, Bare: 7}
	}, numSet(3, 3, 2, 1), numSet(7, 3, 3, 20), numSet(7, 3, 2, 20), numSet(1, 3, 3, 1))
}

// Between two binds the networks need not be right: the codes are the same as if they were.
func TestCodesBehindNetworksThatAreNotRight(t *testing.T) {
	b := setYard()
	for _, wrong := range []impl.Bind{numSet(2, 2, 4, 1), numSet(6, 3, 1, 1), numSet(2, 3, 3, 20), numSet(0, 3, 2, 40)} {
		for _, name := range [][]int{{1, 2}, {1, 3}, {1, 4}, {1, 5}, {2, 1, 1}, {2, 3, 3}, {4, 1, 1, 10}, {4, 1, 20, 11}} {
			allIs(t, b, impl.ErWrite, 2, wrong, numSet(4, name...))
		}
		for _, name := range [][]int{{1, 6}, {2, 2, 4}, {2, 1, 0}, {3, 2, 30}, {3, 1, 100}, {4, 1, 1, 9}, {}} {
			allIs(t, b, impl.ErThere, 2, wrong, numSet(4, name...))
		}
		allIs(t, b, impl.ErType, 2, wrong, numSet(4, 1, 1))
		allIs(t, b, impl.ErType, 2, wrong, valSet(setText("a"), 2, 2, 1))
		allIs(t, b, impl.ErValue, 2, wrong, nameSet("eleven-byte"))
		allIs(t, b, impl.ErValue, 2, wrong, numSet(1001, 2, 2, 1))
		allIs(t, b, impl.ErValue, 2, wrong, numSet(6, 3, 1, 30))
		allIs(t, b, impl.ErValue, 2, wrong, numSet(8, 3, 2, 20))
		allIs(t, b, impl.ErBoth, 2, wrong, wrong)
		allIs(t, b, impl.ErBoth, 2, wrong, nameSet("a"))
	}
}

// A name that one ahead has, too, is refused at its own place, whatever it is worth there.
func TestNamesThatAreTwice(t *testing.T) {
	b := setYard()
	name, cost, pvid := nameSet("a"), numSet(9, 2, 2, 1), numSet(20, 2, 4, 1)
	allIs(t, b, impl.ErBoth, 2, name, name)
	allIs(t, b, impl.ErBoth, 2, name, nameSet("b"))
	allIs(t, b, impl.ErBoth, 2, name, nameSet("eleven-byte"))
	allIs(t, b, impl.ErBoth, 2, cost, valSet(impl.Val{K: 5}, 2, 2, 1))
	allIs(t, b, impl.ErBoth, 3, name, cost, name)
	allIs(t, b, impl.ErBoth, 3, cost, name, name, cost)
	allIs(t, b, impl.ErBoth, 4, name, cost, pvid, cost)
	allIs(t, b, impl.ErBoth, 4, name, cost, pvid, pvid, numSet(0, 2, 2, 2))
	allIs(t, b, impl.ErBoth, 2, numSet(4, 3, 1, 30), numSet(6, 3, 1, 30))
	allIs(t, b, impl.ErBoth, 2, numSet(6, 3, 1, 20), numSet(4, 3, 1, 20))
	allIs(t, b, impl.ErBoth, 3, numSet(7, 3, 2, 20), numSet(6, 3, 1, 20), numSet(7, 3, 2, 20))
	allMakes(t, b, func(b *impl.Bridge) { b.Ports[0].Cost, b.Ports[1].Cost = 9, 9 }, cost, numSet(9, 2, 2, 2))
}

// The first that is refused counts, whatever stands behind it.
func TestTheFirstThatIsRefused(t *testing.T) {
	b := setYard()
	name, cost := nameSet("a"), numSet(9, 2, 2, 1)
	allIs(t, b, impl.ErValue, 1, numSet(0, 2, 2, 1), name, cost)
	allIs(t, b, impl.ErValue, 1, numSet(0, 2, 2, 1), name, name)
	allIs(t, b, impl.ErValue, 2, name, numSet(0, 2, 2, 1), name)
	allIs(t, b, impl.ErWrite, 2, name, numSet(0, 1, 2), numSet(0, 1, 9))
	allIs(t, b, impl.ErThere, 2, name, numSet(0, 1, 9), numSet(0, 1, 2))
	allIs(t, b, impl.ErType, 3, name, cost, valSet(setText("a"), 2, 4, 1), name)
	allIs(t, b, impl.ErThere, 1, numSet(0, 1, 9), numSet(0, 1, 9))
	allIs(t, b, impl.ErThere, 3, name, cost, impl.Bind{}, impl.Bind{})
	allIs(t, b, impl.ErValue, 3, numSet(50, 2, 4, 1), name, numSet(1001, 2, 2, 2))
}

// What was made, whatever it was, is as it was when a later bind is refused.
func TestWhatIsRefusedChangesNothing(t *testing.T) {
	b := setYard()
	makes := []impl.Bind{nameSet("a"), numSet(4, 3, 1, 30), numSet(9, 2, 2, 1), numSet(7, 3, 2, 30), numSet(6, 3, 1, 20), numSet(30, 2, 4, 2), numSet(5, 3, 3, 30), numSet(4, 3, 1, 2), numSet(0, 3, 3, 1), numSet(1, 2, 4, 3), numSet(6, 3, 1, 40), numSet(4, 3, 1, 99), numSet(1000, 2, 2, 3)}
	allIs(t, b, impl.ErNone, 0, makes...)
	for count := range len(makes) + 1 {
		ahead := slices.Clip(makes[:count])
		allIs(t, b, impl.ErThere, count+1, append(ahead, numSet(1, 1, 6))...)
		allIs(t, b, impl.ErWrite, count+1, append(ahead, numSet(1, 2, 1, 1))...)
		allIs(t, b, impl.ErType, count+1, append(ahead, valSet(setText("a"), 2, 2, 2))...)
		allIs(t, b, impl.ErValue, count+1, append(ahead, numSet(1001, 2, 2, 2))...)
		allIs(t, b, impl.ErBoth, count+1, append(ahead, numSet(77, 2, 4, 1))...)
		allIs(t, b, impl.ErValue, count+1, append(ahead, numSet(5, 3, 1, 50), nameSet("b"))...)
	}
	for range 3 {
		allIs(t, b, impl.ErBoth, 2, makes[0], numSet(6, 3, 1, 1))
		allIs(t, b, impl.ErNone, 0, makes...)
	}
}

// It turns once, however much is set; at its most Vers stays.
func TestWhatIsSetTurnsOnce(t *testing.T) {
	for _, n := range []struct{ vers, next int }{{0, 1}, {15, 16}, {999999, 1000000}, {1000000, 1000000}} {
		b := setYard()
		b.Vers = n.vers
		for _, l := range [][]impl.Bind{{nameSet("a")}, {nameSet(b.Name)}, {numSet(1, 2, 2, 1), numSet(1, 2, 2, 2), numSet(1, 2, 4, 1)}} {
			if got := allIs(t, b, impl.ErNone, 0, l...); got.Vers != n.next {
				t.Errorf("Vers of %d turned to %d", n.vers, got.Vers)
			}
		}
		if got := allIs(t, b, impl.ErBoth, 2, nameSet("a"), nameSet("b")); got.Vers != n.vers {
			t.Errorf("Vers of %d turned to %d by what is refused", n.vers, got.Vers)
		}
		if got := oneIs(t, b, impl.ErNone, nameSet("a")); got.Vers != n.vers {
			t.Errorf("Vers of %d turned to %d by SetOne", n.vers, got.Vers)
		}
		for _, count := range bridgeCounts()[:4] {
			if got := allIs(t, b, impl.ErNone, 0, nameSet("a")); *count.of(&got) != *count.of(&b) {
				t.Errorf("%s turned, too: %+v", count.name, got)
			}
		}
	}
}

// By another Cost another port may be the one for the root: who was learned at a port that sends no more goes.
func TestWhatIsSetFlushesPortsThatDoNotSend(t *testing.T) {
	v := impl.Vec{Root: 1, Bridge: 2}
	b := yardOf(7, heardAt(v), heardAt(v), silent())
	b.F = slices.DeleteFunc(b.F, func(e impl.Fent) bool { return e.Port == 1 && !e.Static })
	b.F = append(b.F, impl.Fent{Tag: 30, Mac: 1, Port: 7})
	stands(t, b, 3, 0, 2, 7)
	stands(t, allIs(t, b, impl.ErNone, 0, nameSet("a")), 3, 0, 2, 7)
	stands(t, allIs(t, b, impl.ErNone, 0, numSet(2, 2, 2, 2)), 3, 0, 2, 7)
	stands(t, allIs(t, b, impl.ErNone, 0, numSet(2, 2, 2, 1)), 3, 2, 7)
	stands(t, allIs(t, b, impl.ErNone, 0, numSet(9, 2, 2, 1), numSet(9, 2, 2, 2)), 3, 0, 2, 7)
	stands(t, allIs(t, b, impl.ErNone, 0, numSet(9, 2, 2, 2), numSet(9, 2, 2, 1)), 3, 0, 2, 7)
	stands(t, oneIs(t, b, impl.ErNone, numSet(2, 2, 2, 1)), 3, 0, 2, 7)
	stands(t, allIs(t, b, impl.ErBoth, 3, numSet(2, 2, 2, 1), nameSet("a"), nameSet("b")), 3, 0, 2, 7)
	stands(t, allIs(t, b, impl.ErBoth, 2, numSet(2, 2, 2, 1), numSet(7, 2, 4, 1)), 3, 0, 2, 7)
	b = yardOf(7, silent(), down(), heardAt(v), heardAt(v))
	stands(t, allIs(t, b, impl.ErNone, 0, numSet(1, 2, 2, 2)), 4, 0, 2)
	stands(t, allIs(t, b, impl.ErValue, 1, numSet(0, 2, 2, 2)), 4, 0, 1, 2, 3)
	stands(t, oneIs(t, b, impl.ErNone, numSet(1, 2, 2, 2)), 4, 0, 1, 2, 3)
}

// Who stands in a network whose row goes stays there.
func TestWhoIsInARowThatGoes(t *testing.T) {
	b := setYard()
	got := allIs(t, b, impl.ErNone, 0, numSet(6, 3, 1, 20))
	if !slices.Equal(got.F, b.F) {
		t.Errorf("%+v; want %+v", got.F, b.F)
	}
	allIs(t, got, impl.ErWrite, 1, numSet(1, 4, 1, 20, 10))
}

func TestManyBindsAtOnce(t *testing.T) {
	b := yardOf(9, slices.Repeat([]impl.Pt{silent()}, 6)...)
	b.V = tensVtab(6, 5)
	l := []impl.Bind{nameSet("ten bytes."), numSet(6, 3, 1, 20), numSet(6, 3, 1, 30), numSet(4, 3, 1, 1), numSet(4, 3, 1, 99), numSet(4, 3, 1, 55)}
	for port := 1; port <= 6; port++ {
		l = append(l, numSet(100*port, 2, 2, port), numSet(99, 2, 4, port))
	}
	for _, id := range []int{1, 10, 40, 50, 55, 99} {
		l = append(l, numSet(id%32, 3, 3, id), numSet(id%32|32, 3, 2, id))
	}
	allIs(t, b, impl.ErNone, 0, l...)
	for i := range l {
		twice := append(slices.Clone(l), l[i])
		allIs(t, b, impl.ErBoth, len(twice), twice...)
	}
	allIs(t, b, impl.ErBoth, 2, slices.Repeat([]impl.Bind{nameSet("a")}, 5000)...)
	allIs(t, b, impl.ErThere, 1, slices.Repeat([]impl.Bind{{}}, 5000)...)
	allIs(t, b, impl.ErBoth, len(l)+1, append(l, slices.Repeat(l, 200)...)...)
}

// smallSets are binds of which some are right, some wrong, and some only behind others.
func smallSets() []impl.Bind {
	return []impl.Bind{
		nameSet("a"), nameSet("eleven-byte"), numSet(1, 1, 1), numSet(1, 1, 2), numSet(1, 1, 6), {},
		numSet(9, 2, 2, 1), numSet(0, 2, 2, 1), valSet(setText("a"), 2, 2, 1), numSet(3, 2, 2, 3),
		numSet(3, 2, 4, 1), numSet(4, 2, 4, 1), numSet(4, 2, 4, 2), numSet(1, 2, 1, 1),
		numSet(4, 3, 1, 4), numSet(6, 3, 1, 4), numSet(4, 3, 1, 3), numSet(6, 3, 1, 3), numSet(6, 3, 1, 1),
		numSet(3, 3, 2, 4), numSet(0, 3, 2, 3), numSet(3, 3, 2, 3), numSet(4, 3, 2, 3),
		numSet(2, 3, 3, 4), numSet(1, 3, 3, 3), numSet(0, 3, 3, 1), numSet(1, 4, 1, 3, 300),
	}
}

// All lists of up to three small binds.
func TestAllShortListsOfBinds(t *testing.T) {
	b := impl.BridgeNew(5, 2)
	b = impl.LinkSet(b, 1, true)
	b.V.Rows = append(b.V.Rows, impl.Vrow{Id: 3, Members: 2})
	b.F = []impl.Fent{{Tag: 3, Mac: 300, Port: 1}, {Tag: 4, Mac: 300, Port: 0}}
	all, none := smallSets(), 0
	for _, x := range all {
		setsOne(t, b, x)
		setsAll(t, b, []impl.Bind{x})
		for _, y := range all {
			setsAll(t, b, []impl.Bind{x, y})
			for _, z := range all {
				if _, code, _ := setsAll(t, b, []impl.Bind{x, y, z}); code == impl.ErNone {
					none++
				}
			}
		}
	}
	if none < 100 {
		t.Errorf("%d lists of three were set", none)
	}
}

// drawnSet is a bind by a rule that draws numbers below a count: mostly of a thing that can be set.
func drawnSet(b impl.Bridge, next func(count int) int) impl.Bind {
	row := 1 + next(12)
	if next(2) == 0 {
		row = b.V.Rows[next(len(b.V.Rows))].Id
	}
	port := 1 + next(len(b.Ports))
	bits := next(1 << len(b.Ports))
	switch next(16) {
	case 0, 1:
		return nameSet("eleven-byte"[:next(12)])
	case 2, 3, 4:
		return numSet(1+next(1000), 2, 2, port)
	case 5, 6:
		return numSet(row, 2, 4, port)
	case 7, 8:
		return numSet(4, 3, 1, row)
	case 9, 10:
		return numSet(6, 3, 1, row)
	case 11, 12:
		return numSet(bits, 3, 2, row)
	case 13, 14:
		return numSet(bits&next(1<<len(b.Ports)), 3, 3, row)
	}
	return numSet(next(9), next(5), next(5), next(9))
}

func TestBindsByAFixedRule(t *testing.T) {
	next := drawing(18)
	codes := map[int]int{}
	for range 400 {
		b := drawnBridge(next)
		for range 10 {
			var l []impl.Bind
			for range 1 + next(8) {
				l = append(l, drawnSet(b, next))
			}
			for _, x := range l {
				setsOne(t, b, x)
			}
			got, code, _ := setsAll(t, b, l)
			codes[code]++
			b = got
		}
	}
	for _, code := range []int{impl.ErNone, impl.ErValue, impl.ErThere, impl.ErBoth} {
		if codes[code] < 50 {
			t.Errorf("the code %d was told %d times", code, codes[code])
		}
	}
}

// What SetAll makes of binds that are right one by one is what SetOne makes of each, and turned.
func TestAllAtOnceIsAsOneByOne(t *testing.T) {
	next := drawing(81)
	set := 0
	for range 2000 {
		b := drawnBridge(next)
		to, l := b, []impl.Bind(nil)
		for range 1 + next(6) {
			x := drawnSet(to, next)
			made, code := impl.SetOne(to, x)
			if code != impl.ErNone || !impl.BridgeOk(made) || slices.ContainsFunc(l, func(y impl.Bind) bool { return slices.Equal(y.O, x.O) }) {
				continue
			}
			to, l = made, append(l, x)
		}
		if len(l) == 0 {
			continue
		}
		set++
		if got, code, place := impl.SetAll(b, l); code != impl.ErNone || place != 0 || !sameBridgeParts(got, wantTurned(to)) {
			t.Errorf("SetAll(%+v, %+v) = %+v, %d, %d; one by one it is %+v", b, l, got, code, place, to)
		}
	}
	if set < 500 {
		t.Errorf("%d lists were set", set)
	}
}

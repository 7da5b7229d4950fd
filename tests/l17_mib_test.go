package tests

import (
	"math"
	"slices"
	"strconv"
	"strings"
	"testing"

	"loop.example/g00326/impl"
)

// wantMib and the models below say the document's words once more, plainly: thing by thing
// as it stands in the bridge, and put in order at last.
func wantMib(b impl.Bridge) []impl.Bind {
	if !rightBridge(b) {
		return nil
	}
	l := []impl.Bind{{O: []int{1, 3, 1, 1, 1}, V: impl.Val{K: 4, S: b.Name}}}
	tell := func(n int, name ...int) {
		l = append(l, impl.Bind{O: append([]int{1, 3, 1}, name...), V: impl.Val{K: 2, N: n}})
	}
	for _, e := range b.F {
		tell(e.Port+1, 4, 1, e.Tag, e.Mac)
	}
	for _, r := range b.V.Rows {
		tell(1, 3, 1, r.Id)
		tell(r.Members, 3, 2, r.Id)
		tell(r.Bare, 3, 3, r.Id)
	}
	for port, p := range b.Ports {
		up := 0
		if p.Up {
			up = 1
		}
		tell(up, 2, 1, port+1)
		tell(p.Cost, 2, 2, port+1)
		tell(wantRole(b.Id, b.Ports, port), 2, 3, port+1)
		tell(b.V.Pvid[port], 2, 4, port+1)
	}
	tell(b.Ticks, 1, 2)
	tell(b.Parse, 1, 3)
	tell(b.Word, 1, 4)
	tell(b.Drops, 1, 5)
	slices.SortFunc(l, func(x impl.Bind, y impl.Bind) int { return slices.Compare(x.O, y.O) })
	return l
}

func wantMibGet(b impl.Bridge, o []int) impl.Val {
	for _, x := range wantMib(b) {
		if slices.Equal(x.O, o) {
			return x.V
		}
	}
	return impl.Val{K: 128}
}

func wantMibNext(b impl.Bridge, o []int) impl.Bind {
	for _, x := range wantMib(b) {
		if slices.Compare(x.O, o) > 0 {
			return x
		}
	}
	return impl.Bind{O: o, V: impl.Val{K: 130}}
}

func copiedBind(x impl.Bind) impl.Bind {
	x.O, x.V.O = slices.Clone(x.O), slices.Clone(x.V.O)
	return x
}

// asksFor hands a name in, with spare room behind it and without, and wants what it is worth and
// the next one to be as the models have it, in memory that belongs to nobody else.
func asksFor(t *testing.T, b impl.Bridge, o []int) (impl.Val, impl.Bind) {
	t.Helper()
	wantWorth, wantBehind := wantMibGet(b, o), wantMibNext(b, o)
	room := append(slices.Clone(o), 1, 3)
	kept := slices.Clone(room)
	var worth impl.Val
	var behind impl.Bind
	handedTo(t, b, func(b impl.Bridge) impl.Bridge {
		for _, spare := range []int{2, 0} {
			handed := room[: len(o) : len(o)+spare]
			v, x := impl.MibGet(b, handed), impl.MibNext(b, handed)
			if !sameParts(v, wantWorth) {
				t.Errorf("MibGet(%+v, %v) = %+v; want %+v", b, o, v, wantWorth)
			}
			if !sameBindParts([]impl.Bind{x}, []impl.Bind{wantBehind}) {
				t.Errorf("MibNext(%+v, %v) = %+v; want %+v", b, o, x, wantBehind)
			}
			worth, behind = v, copiedBind(x)
			overwrite(v.O, -7)
			overwrite(x.V.O, -7)
			overwrite(x.O, -7)
			if !slices.Equal(room, kept) {
				t.Fatalf("the name %v was written: %v", kept, room)
			}
		}
		return impl.Bridge{}
	})
	return worth, behind
}

// listed wants MibList to be as the model has it, each name in memory of its own.
func listed(t *testing.T, b impl.Bridge) []impl.Bind {
	t.Helper()
	want := wantMib(b)
	handedTo(t, b, func(b impl.Bridge) impl.Bridge {
		l := impl.MibList(b)
		if !sameBindParts(l, want) {
			t.Fatalf("MibList(%+v) = %+v; want %+v", b, l, want)
		}
		for i := range l {
			overwrite(l[i].O, -7)
			overwrite(l[i].V.O, -7)
			if !sameBindParts(l[i+1:], want[i+1:]) {
				t.Fatalf("MibList(%+v): the name %d is shared with one behind it", b, i)
			}
		}
		overwrite(l, impl.Bind{})
		return impl.Bridge{}
	})
	return want
}

// walked are all that MibNext tells from a name on, until it is told that there is none behind.
func walked(t *testing.T, b impl.Bridge, from []int) []impl.Bind {
	t.Helper()
	var l []impl.Bind
	for range 100 {
		x := impl.MibNext(b, from)
		if x.V.K == impl.VEnd {
			if !slices.Equal(x.O, from) || !sameParts(x.V, impl.Val{K: impl.VEnd}) {
				t.Errorf("behind %v of %+v: %+v", from, b, x)
			}
			return l
		}
		l = append(l, x)
		from = x.O
	}
	t.Fatalf("from %v on MibNext of %+v comes to no end", from, b)
	return nil
}

// strayNames are names that may be there or not, right and wrong, about all that is there.
func strayNames() [][]int {
	all := [][]int{nil, {}}
	for _, n := range []int{math.MinInt, -100001, -1, 0, 1, 2, 3, 4, 5, 99, 100000, 100001, 1<<32 + 1, math.MaxInt} {
		all = append(all, []int{n}, []int{1, n}, []int{1, 3, n}, []int{1, 3, 1, n}, []int{n, 3, 1, 1, 1}, []int{1, n, 1, 1, 1}, []int{1, 3, n, 1, 1}, []int{1, 3, 1, n, 1})
		for head := range 6 {
			all = append(all, []int{1, 3, 1, head, n}, []int{1, 3, 1, head, 1, n}, []int{1, 3, 1, head, n, 1}, []int{1, 3, 1, head, 3, n}, []int{1, 3, 1, head, 1, n, 300}, []int{1, 3, 1, head, 1, 3, n}, []int{1, 3, 1, head, 1, 1, n, n})
		}
		all = append(all, slices.Repeat([]int{n}, 10), slices.Repeat([]int{n}, 11), append([]int{1, 3, 1, 1, 1}, slices.Repeat([]int{n}, 30)...))
	}
	return all
}

// about are a name, all that it begins with, what goes on from it, and what lies beside it number by number.
func about(o []int) [][]int {
	var all [][]int
	for at := range len(o) + 1 {
		all = append(all, slices.Clone(o[:at]))
	}
	for _, n := range []int{math.MinInt, -1, 0, 1, 100000, math.MaxInt} {
		all = append(all, append(slices.Clone(o), n))
	}
	all = append(all, append(slices.Clone(o), 0, 0, 0, 0, 0, 0, 0))
	for at := range o {
		for _, by := range []int{-1, 1} {
			x := slices.Clone(o)
			x[at] += by
			all = append(all, x)
		}
	}
	return all
}

// canBeAsked wants all things of a bridge to be told by their names, and by those ahead.
func canBeAsked(t *testing.T, b impl.Bridge) []impl.Bind {
	t.Helper()
	l := listed(t, b)
	for i, x := range l {
		if !impl.OidOk(x.O) || !impl.ValOk(x.V) {
			t.Errorf("%+v of %+v is not right", x, b)
		}
		worth, behind := asksFor(t, b, x.O)
		if !sameParts(worth, x.V) {
			t.Errorf("%v of %+v is worth %+v; the list has %+v", x.O, b, worth, x.V)
		}
		if i+1 < len(l) && !sameBindParts([]impl.Bind{behind}, l[i+1:i+2]) {
			t.Errorf("behind %v of %+v stands %+v; the list has %+v", x.O, b, behind, l[i+1])
		}
		for _, o := range [][]int{x.O[:5], append(slices.Clone(x.O), 0)} {
			asksFor(t, b, o)
		}
	}
	if all := walked(t, b, nil); !sameBindParts(all, l) {
		t.Errorf("from no name on: %+v; want %+v", all, l)
	}
	return l
}

// cannotBeAsked wants a bridge to be wrong, and nothing of it to be told.
func cannotBeAsked(t *testing.T, b impl.Bridge) {
	t.Helper()
	if impl.BridgeOk(b) || len(listed(t, b)) != 0 || len(impl.MibList(b)) != 0 {
		t.Errorf("of %+v something is told", b)
	}
	for _, o := range [][]int{nil, {}, {0}, {1, 3, 1}, {1, 3, 1, 1, 1}, {1, 3, 1, 1, 5}, {1, 3, 1, 2, 1, 1}, {1, 3, 1, 3, 1, 1}, {1, 3, 1, 4, 1, 1, 10}, {-1, math.MaxInt}, slices.Repeat([]int{7}, 11)} {
		v, x := asksFor(t, b, o)
		if !sameParts(v, impl.Val{K: impl.VNone}) || !slices.Equal(x.O, o) || !sameParts(x.V, impl.Val{K: impl.VEnd}) {
			t.Errorf("%v of %+v: %+v and %+v", o, b, v, x)
		}
	}
}

// thingText is a name behind 1.3.1, and what it is worth: a text stands in quotes.
func thingText(x impl.Bind) string {
	name := strings.TrimPrefix(wantOidText(x.O), "1.3.1.")
	if x.V.K == impl.VText {
		return name + " " + strconv.Quote(x.V.S)
	}
	return name + " " + strconv.Itoa(x.V.N)
}

// thingsUnder are those of the list whose name begins with this behind 1.3.1, each as a text.
func thingsUnder(l []impl.Bind, head ...int) []string {
	var all []string
	for _, x := range l {
		if len(x.O) >= 3+len(head) && slices.Equal(x.O[3:3+len(head)], head) {
			all = append(all, thingText(x))
		}
	}
	return all
}

func thingsAre(t *testing.T, got []string, want ...string) {
	t.Helper()
	if !slices.Equal(got, want) {
		t.Errorf("%q; want %q", got, want)
	}
}

// worthIs wants a name behind 1.3.1 of the bridge to be worth a number.
func worthIs(t *testing.T, b impl.Bridge, n int, name ...int) {
	t.Helper()
	o := append([]int{1, 3, 1}, name...)
	if v, _ := asksFor(t, b, o); !sameParts(v, impl.Val{K: impl.VInt, N: n}) {
		t.Errorf("%v of %+v is worth %+v; want %d", o, b, v, n)
	}
}

func noWorth(t *testing.T, b impl.Bridge, o ...int) {
	t.Helper()
	if v, _ := asksFor(t, b, o); !sameParts(v, impl.Val{K: impl.VNone}) {
		t.Errorf("%v of %+v is worth %+v; want VNone", o, b, v)
	}
}

// behindIs wants the first behind a name to be this one.
func behindIs(t *testing.T, b impl.Bridge, o []int, want ...int) {
	t.Helper()
	if _, x := asksFor(t, b, o); !slices.Equal(x.O, want) || x.V.K == impl.VEnd {
		t.Errorf("behind %v of %+v stands %+v; want %v", o, b, x, want)
	}
}

func nothingBehind(t *testing.T, b impl.Bridge, o ...int) {
	t.Helper()
	if _, x := asksFor(t, b, o); !slices.Equal(x.O, o) || !sameParts(x.V, impl.Val{K: impl.VEnd}) {
		t.Errorf("behind %v of %+v stands %+v; want VEnd", o, b, x)
	}
}

// quietYard has three ports, rows and entries, each of whose things is worth something else where it can be.
func quietYard() impl.Bridge {
	b := impl.Bridge{Id: 7, Name: "yard", Ticks: 21, Parse: 22, Word: 23, Drops: 24, Vers: 25}
	b.Ports = []impl.Pt{{Cost: 31}, {Up: true, Cost: 32, Has: true, Heard: impl.Vec{Root: 2, Bridge: 2}}, {Up: true, Cost: 33}}
	b.V.Rows = []impl.Vrow{{Id: 4, Members: 7, Bare: 5}, {Id: 40, Members: 6, Bare: 2}, {Id: 99}}
	b.V.Pvid = []int{4, 40, 99}
	b.F = []impl.Fent{{Tag: 4, Mac: 300, Port: 1, Age: 2}, {Tag: 40, Mac: 20, Port: 7, Static: true}, {Tag: 40, Mac: 9999}}
	return b
}

func TestThingsOfABridgeAsWrittenOut(t *testing.T) {
	b := quietYard()
	thingsAre(t, thingsUnder(canBeAsked(t, b)),
		`1.1 "yard"`, "1.2 21", "1.3 22", "1.4 23", "1.5 24",
		"2.1.1 0", "2.1.2 1", "2.1.3 1",
		"2.2.1 31", "2.2.2 32", "2.2.3 33",
		"2.3.1 4", "2.3.2 1", "2.3.3 2",
		"2.4.1 4", "2.4.2 40", "2.4.3 99",
		"3.1.4 1", "3.1.40 1", "3.1.99 1",
		"3.2.4 7", "3.2.40 6", "3.2.99 0",
		"3.3.4 5", "3.3.40 2", "3.3.99 0",
		"4.1.4.300 2", "4.1.40.20 8", "4.1.40.9999 1")
	thingsAre(t, thingsUnder(canBeAsked(t, impl.BridgeNew(1, 1))),
		`1.1 ""`, "1.2 0", "1.3 0", "1.4 0", "1.5 0", "2.1.1 0", "2.2.1 1", "2.3.1 4", "2.4.1 1", "3.1.1 1", "3.2.1 1", "3.3.1 1")
}

// Each thing is told by its name alone: one by one what it is worth is set to something else, and nothing else changes.
func TestEachThingByItself(t *testing.T) {
	for _, c := range []struct {
		set  func(b *impl.Bridge)
		name []int
		n    int
	}{
		{func(b *impl.Bridge) { b.Ticks = 1000000 }, []int{1, 2}, 1000000},
		{func(b *impl.Bridge) { b.Parse = 0 }, []int{1, 3}, 0},
		{func(b *impl.Bridge) { b.Word = 1 }, []int{1, 4}, 1},
		{func(b *impl.Bridge) { b.Drops = 999999 }, []int{1, 5}, 999999},
		{func(b *impl.Bridge) { b.Ports[0].Cost = 1 }, []int{2, 2, 1}, 1},
		{func(b *impl.Bridge) { b.Ports[1].Cost = 1000 }, []int{2, 2, 2}, 1000},
		{func(b *impl.Bridge) { b.V.Pvid[0] = 40 }, []int{2, 4, 1}, 40},
		{func(b *impl.Bridge) { b.V.Pvid[2] = 4 }, []int{2, 4, 3}, 4},
		{func(b *impl.Bridge) { b.V.Rows[1].Members = 7 }, []int{3, 2, 40}, 7},
		{func(b *impl.Bridge) { b.V.Rows[2].Members = 1 }, []int{3, 2, 99}, 1},
		{func(b *impl.Bridge) { b.V.Rows[0].Bare = 0 }, []int{3, 3, 4}, 0},
		{func(b *impl.Bridge) { b.F[0].Port = 5 }, []int{4, 1, 4, 300}, 6},
		{func(b *impl.Bridge) { b.F[2].Port = 3 }, []int{4, 1, 40, 9999}, 4},
	} {
		b := quietYard()
		want := impl.MibList(b)
		c.set(&b)
		for i := range want {
			if slices.Equal(want[i].O[3:], c.name) {
				want[i].V.N = c.n
			}
		}
		if l := canBeAsked(t, b); !sameBindParts(l, want) {
			t.Errorf("%v set to %d: %+v; want %+v", c.name, c.n, l, want)
		}
		worthIs(t, b, c.n, c.name...)
	}
}

// Neither Id nor Vers, nor what was heard, nor how old an entry is, is a thing of its own.
func TestWhatIsNoThing(t *testing.T) {
	want := impl.MibList(quietYard())
	for _, set := range []func(b *impl.Bridge){
		func(b *impl.Bridge) { b.Id = 9 },
		func(b *impl.Bridge) { b.Vers = 0 },
		func(b *impl.Bridge) { b.Ports[1].Heard = impl.Vec{Root: 1, Cost: 9, Hops: 3, Bridge: 5, Port: 6} },
		func(b *impl.Bridge) { b.F[0].Age = 0 },
		func(b *impl.Bridge) { b.F[0].Age, b.F[0].Static = 0, true },
		func(b *impl.Bridge) { b.F[1].Static = false },
	} {
		b := quietYard()
		set(&b)
		if l := canBeAsked(t, b); !sameBindParts(l, want) {
			t.Errorf("%+v; want %+v", l, want)
		}
	}
}

func TestNamesOfABridgeAreTexts(t *testing.T) {
	for _, name := range []string{"", "a", "yard", "ten bytes.", "12", strings.Repeat("\x00", 10), strings.Repeat("\xff", 10), "é€\n"} {
		b := quietYard()
		b.Name = name
		canBeAsked(t, b)
		if v := impl.MibGet(b, []int{1, 3, 1, 1, 1}); !sameParts(v, impl.Val{K: impl.VText, S: name}) {
			t.Errorf("the Name %q is worth %+v", name, v)
		}
		if x := impl.MibNext(b, nil); !sameParts(x.V, impl.Val{K: impl.VText, S: name}) {
			t.Errorf("the first of a bridge of the Name %q is %+v", name, x)
		}
	}
}

// All but Name are numbers, whatever they are worth.
func TestAllButNameAreNumbers(t *testing.T) {
	full := quietYard()
	for _, b := range []impl.Bridge{full, impl.BridgeNew(1, 1), impl.BridgeNew(99, 6), {Id: 5, Ports: []impl.Pt{{Cost: 1}}, V: impl.Vtab{Rows: []impl.Vrow{{Id: 1}}, Pvid: []int{1}}}} {
		for i, x := range canBeAsked(t, b) {
			if (x.V.K == impl.VText) != (i == 0) || i > 0 && x.V.K != impl.VInt || len(x.V.O) != 0 {
				t.Errorf("%+v of %+v", x, b)
			}
		}
	}
}

func TestCountsThatAreAsked(t *testing.T) {
	for _, n := range []int{0, 1, 127, 128, 999999, 1000000} {
		for _, head := range []int{2, 3, 4, 5} {
			b := quietYard()
			*bridgeCounts()[head-2].of(&b) = n
			worthIs(t, b, n, 1, head)
			canBeAsked(t, b)
		}
	}
	b := quietYard()
	noWorth(t, b, 1, 3, 1, 1, 0)
	noWorth(t, b, 1, 3, 1, 1, 6)
	noWorth(t, b, 1, 3, 1, 1)
	noWorth(t, b, 1, 3, 1, 1, 1, 1)
	behindIs(t, b, []int{1, 3, 1, 1, 5}, 1, 3, 1, 2, 1, 1)
	behindIs(t, b, []int{1, 3, 1, 1, 6}, 1, 3, 1, 2, 1, 1)
}

// A column stands whole ahead of the next one, each by the ports, whose numbers begin with 1.
func TestColumnsOfPorts(t *testing.T) {
	for ports := 1; ports <= 6; ports++ {
		b := impl.BridgeNew(5, ports)
		l := canBeAsked(t, b)
		if len(l) != 5+4*ports+3 {
			t.Errorf("%d things of %d ports", len(l), ports)
		}
		at := 5
		for column := 1; column <= 4; column++ {
			for port := 1; port <= ports; port++ {
				if want := []int{1, 3, 1, 2, column, port}; !slices.Equal(l[at].O, want) {
					t.Errorf("at %d of %d ports: %v; want %v", at, ports, l[at].O, want)
				}
				at++
			}
			noWorth(t, b, 1, 3, 1, 2, column, 0)
			noWorth(t, b, 1, 3, 1, 2, column, ports+1)
			noWorth(t, b, 1, 3, 1, 2, column)
			behindIs(t, b, []int{1, 3, 1, 2, column}, 1, 3, 1, 2, column, 1)
			behindIs(t, b, []int{1, 3, 1, 2, column, 0}, 1, 3, 1, 2, column, 1)
			if column < 4 {
				behindIs(t, b, []int{1, 3, 1, 2, column, ports}, 1, 3, 1, 2, column+1, 1)
			}
		}
		behindIs(t, b, []int{1, 3, 1, 2, 4, ports}, 1, 3, 1, 3, 1, 1)
		noWorth(t, b, 1, 3, 1, 2, 0, 1)
		noWorth(t, b, 1, 3, 1, 2, 5, 1)
	}
}

func TestWhatPortsAreWorth(t *testing.T) {
	v := impl.Vec{Root: 1, Cost: 10, Hops: 2, Bridge: 3, Port: 4}
	for bits := range 64 {
		b := yardOf(5, slices.Repeat([]impl.Pt{down()}, 6)...)
		for port := range 6 {
			b.Ports[port] = impl.Pt{Up: hasBit(bits, port), Cost: 1000 - port}
			b.V.Pvid[port] = []int{1, 20}[(bits+port)%2]
		}
		l := canBeAsked(t, b)
		for port := range 6 {
			up := bits >> port & 1
			if l[5+port].V.N != up || l[11+port].V.N != 1000-port || l[17+port].V.N != 4-2*up || l[23+port].V.N != b.V.Pvid[port] {
				t.Errorf("the port %d of %+v: %+v", port, b, l)
			}
		}
	}
	b := yardOf(7, heardAt(v), heardAt(v), silent(), down(), heardAt(impl.Vec{Root: 1, Bridge: 2}), heardAt(impl.Vec{Root: 99, Bridge: 99}))
	thingsAre(t, thingsUnder(canBeAsked(t, b), 2, 1), "2.1.1 1", "2.1.2 1", "2.1.3 1", "2.1.4 0", "2.1.5 1", "2.1.6 1")
	thingsAre(t, thingsUnder(canBeAsked(t, b), 2, 3), "2.3.1 2", "2.3.2 2", "2.3.3 2", "2.3.4 4", "2.3.5 1", "2.3.6 2")
	b.Ports[4].Cost = 1000
	thingsAre(t, thingsUnder(canBeAsked(t, b), 2, 3), "2.3.1 1", "2.3.2 3", "2.3.3 2", "2.3.4 4", "2.3.5 3", "2.3.6 2")
	b.Id = 1
	thingsAre(t, thingsUnder(canBeAsked(t, b), 2, 3), "2.3.1 2", "2.3.2 2", "2.3.3 2", "2.3.4 4", "2.3.5 2", "2.3.6 2")
}

// Rows are named by their Ids, not by their places.
func TestColumnsOfRows(t *testing.T) {
	for rows := 1; rows <= 6; rows++ {
		b := impl.BridgeNew(5, 3)
		b.V = tensVtab(3, rows)
		l := canBeAsked(t, b)
		if len(l) != 5+12+3*rows {
			t.Errorf("%d things of %d rows", len(l), rows)
		}
		for i, r := range b.V.Rows {
			for column, n := range []int{1, r.Members, r.Bare} {
				x := l[17+column*rows+i]
				if !slices.Equal(x.O, []int{1, 3, 1, 3, column + 1, r.Id}) || x.V.N != n {
					t.Errorf("the column %d of %+v: %+v", column+1, r, x)
				}
			}
			worthIs(t, b, 1, 3, 1, r.Id)
			noWorth(t, b, 1, 3, 1, 3, 1, i)
			noWorth(t, b, 1, 3, 1, 3, 4, r.Id)
			noWorth(t, b, 1, 3, 1, 3, 0, r.Id)
		}
		behindIs(t, b, []int{1, 3, 1, 3, 1}, 1, 3, 1, 3, 1, 10)
		behindIs(t, b, []int{1, 3, 1, 3, 1, 10 * rows}, 1, 3, 1, 3, 2, 10)
		behindIs(t, b, []int{1, 3, 1, 3, 2, 99}, 1, 3, 1, 3, 3, 10)
		nothingBehind(t, b, 1, 3, 1, 3, 3, 10*rows)
	}
}

func TestWhatRowsAreWorth(t *testing.T) {
	b := impl.BridgeNew(5, 6)
	b.V.Rows = []impl.Vrow{{Id: 1, Members: 63, Bare: 63}, {Id: 2}, {Id: 50, Members: 63}, {Id: 98, Members: 32, Bare: 32}, {Id: 99, Members: 1}}
	l := canBeAsked(t, b)
	thingsAre(t, thingsUnder(l, 3, 1), "3.1.1 1", "3.1.2 1", "3.1.50 1", "3.1.98 1", "3.1.99 1")
	thingsAre(t, thingsUnder(l, 3, 2), "3.2.1 63", "3.2.2 0", "3.2.50 63", "3.2.98 32", "3.2.99 1")
	thingsAre(t, thingsUnder(l, 3, 3), "3.3.1 63", "3.3.2 0", "3.3.50 0", "3.3.98 32", "3.3.99 0")
}

// Entries stand by tag, then by mac; each is worth one more than its port, whether it is static or not, and at ports that the bridge has not, too.
func TestEntriesThatAreAsked(t *testing.T) {
	b := impl.BridgeNew(5, 2)
	for _, tag := range []int{99, 1, 10, 9} {
		for _, mac := range []int{9999, 1, 100} {
			b.F = impl.Learn(b.F, tag, mac, (tag+mac)%8)
		}
	}
	l := canBeAsked(t, b)
	if len(b.F) != 12 || len(l) != 5+8+3+12 {
		t.Errorf("%d things of %d entries", len(l), len(b.F))
	}
	thingsAre(t, thingsUnder(l, 4),
		"4.1.1.1 3", "4.1.1.100 6", "4.1.1.9999 1",
		"4.1.9.1 3", "4.1.9.100 6", "4.1.9.9999 1",
		"4.1.10.1 4", "4.1.10.100 7", "4.1.10.9999 2",
		"4.1.99.1 5", "4.1.99.100 8", "4.1.99.9999 3")
	nothingBehind(t, b, 1, 3, 1, 4, 1, 99, 9999)
	nothingBehind(t, b, 1, 3, 1, 4, 2)
	noWorth(t, b, 1, 3, 1, 4, 1, 1)
	noWorth(t, b, 1, 3, 1, 4, 1, 1, 2)
	noWorth(t, b, 1, 3, 1, 4, 2, 1, 1)
	noWorth(t, b, 1, 3, 1, 4, 1, 1, 1, 0)
	behindIs(t, b, []int{1, 3, 1, 3, 3, 1}, 1, 3, 1, 4, 1, 1, 1)
	behindIs(t, b, []int{1, 3, 1, 4, 1, 1, 9999}, 1, 3, 1, 4, 1, 9, 1)
	behindIs(t, b, []int{1, 3, 1, 4, 1, 9}, 1, 3, 1, 4, 1, 9, 1)
	behindIs(t, b, []int{1, 3, 1, 4, 1, 10, 100, 0}, 1, 3, 1, 4, 1, 10, 9999)
	for port := range 8 {
		b.F, _ = impl.SetStatic(nil, 3, 300, port)
		worthIs(t, b, port+1, 4, 1, 3, 300)
	}
	b.F = fullFdb()
	canBeAsked(t, b)
	for count := range 13 {
		b.F = fullFdb()[:count]
		if l := canBeAsked(t, b); len(thingsUnder(l, 4)) != count {
			t.Errorf("of %d entries: %+v", count, l)
		}
	}
}

func TestABridgeWithoutEntries(t *testing.T) {
	for _, none := range [][]impl.Fent{nil, {}} {
		b := impl.BridgeNew(5, 2)
		b.F = none
		canBeAsked(t, b)
		nothingBehind(t, b, 1, 3, 1, 3, 3, 1)
		nothingBehind(t, b, 1, 3, 1, 4)
		noWorth(t, b, 1, 3, 1, 4, 1, 1, 1)
	}
}

// The greatest bridge there is: of MaxPorts, MaxVlans and MaxFdb.
func TestTheGreatestBridge(t *testing.T) {
	b := yardOf(99, slices.Repeat([]impl.Pt{silent()}, 6)...)
	b.V = tensVtab(6, 6)
	b.F = fullFdb()
	if l := canBeAsked(t, b); len(l) != 5+24+18+12 {
		t.Errorf("%d things", len(l))
	}
	for _, o := range strayNames() {
		asksFor(t, b, o)
	}
}

func TestNamesThatAreNotThere(t *testing.T) {
	for _, b := range []impl.Bridge{quietYard(), impl.BridgeNew(1, 1), yardOf(5, silent(), down())} {
		l := impl.MibList(b)
		for _, o := range strayNames() {
			v, x := asksFor(t, b, o)
			at := slices.IndexFunc(l, func(x impl.Bind) bool { return slices.Equal(x.O, o) })
			if (v.K == impl.VNone) != (at < 0) {
				t.Errorf("%v of %+v: %+v", o, b, v)
			}
			if (x.V.K == impl.VEnd) != (slices.Compare(o, l[len(l)-1].O) >= 0) {
				t.Errorf("behind %v of %+v: %+v", o, b, x)
			}
		}
		for _, x := range l {
			for _, o := range about(x.O) {
				asksFor(t, b, o)
			}
		}
	}
}

// No name need be right to be asked for: one without numbers, with numbers that are too small or too great, or with too many.
func TestNamesThatAreNotRight(t *testing.T) {
	b := quietYard()
	for _, o := range [][]int{nil, {}, {-1}, {math.MinInt}, {1, -1}, {1, 3, 1, -1}, {1, 3, 1, 1, 0, 0, 0, 0, 0, 0, 0}, {1, 3, 0, math.MaxInt}} {
		if x := impl.MibNext(b, o); thingText(x) != `1.1 "yard"` {
			t.Errorf("behind %v stands %+v", o, x)
		}
		noWorth(t, b, o...)
	}
	behindIs(t, b, []int{1, 3, 1, 1, math.MaxInt}, 1, 3, 1, 2, 1, 1)
	behindIs(t, b, []int{1, 3, 1, 2, 1, 1 << 32}, 1, 3, 1, 2, 2, 1)
	behindIs(t, b, []int{1, 3, 1, 2, 1, 2, 0, 0, 0, 0, 0, 0, 0, 0, 0}, 1, 3, 1, 2, 1, 3)
	behindIs(t, b, []int{1, 3, 1, 2, 1, 2, -1}, 1, 3, 1, 2, 1, 3)
	behindIs(t, b, []int{1, 3, 1, 2, 1, -5}, 1, 3, 1, 2, 1, 1)
	behindIs(t, b, []int{1, 3, 1, 2, -5, 100000}, 1, 3, 1, 2, 1, 1)
	behindIs(t, b, []int{1, 3, 1, 4, 1, 4, 100001}, 1, 3, 1, 4, 1, 40, 20)
	for _, o := range [][]int{{2}, {1, 4}, {1, 3, 2}, {1, 3, 1, 5}, {1, 3, 1, 4, 1, 40, 9999}, {1, 3, 1, 4, 1, 40, 9999, -1}, {1, 3, 1, 4, 1, 41}, {math.MaxInt}, {1, 3, 1, math.MaxInt}, {100001}, slices.Repeat([]int{9}, 40)} {
		nothingBehind(t, b, o...)
	}
}

func TestBridgesThatCannotBeAsked(t *testing.T) {
	cannotBeAsked(t, impl.Bridge{})
	cannotBeAsked(t, impl.Bridge{Id: 5})
	asked := 0
	for _, b := range []impl.Bridge{quietYard(), yardOf(5, heardAt(impl.Vec{Root: 1, Bridge: 4}), silent(), down())} {
		for _, x := range otherBridges(b) {
			if rightBridge(x) {
				canBeAsked(t, x)
				asked++
			} else {
				cannotBeAsked(t, x)
			}
		}
	}
	if asked < 20 {
		t.Errorf("%d bridges were asked", asked)
	}
}

// A bridge is wrong in one thing, at its edge: nothing at all is told of it.
func TestBridgesWrongInOneThingCannotBeAsked(t *testing.T) {
	for _, set := range []func(b *impl.Bridge){
		func(b *impl.Bridge) { b.Id = 0 },
		func(b *impl.Bridge) { b.Id = 100 },
		func(b *impl.Bridge) { b.Name = "eleven-byte" },
		func(b *impl.Bridge) { b.Ticks = 1000001 },
		func(b *impl.Bridge) { b.Vers = -1 },
		func(b *impl.Bridge) { b.Drops = math.MaxInt },
		func(b *impl.Bridge) { b.Ports = nil },
		func(b *impl.Bridge) { b.Ports = b.Ports[:2] },
		func(b *impl.Bridge) { b.Ports = append(b.Ports, down()) },
		func(b *impl.Bridge) { b.Ports = slices.Repeat(b.Ports, 30) },
		func(b *impl.Bridge) { b.Ports[2].Cost = 0 },
		func(b *impl.Bridge) { b.Ports[0].Cost = 1001 },
		func(b *impl.Bridge) { b.Ports[1].Up = false },
		func(b *impl.Bridge) { b.V.Pvid = nil },
		func(b *impl.Bridge) { b.V.Pvid = b.V.Pvid[:2] },
		func(b *impl.Bridge) { b.V.Pvid = append(b.V.Pvid, 4) },
		func(b *impl.Bridge) { b.V.Pvid[1] = 41 },
		func(b *impl.Bridge) { b.V.Rows = nil },
		func(b *impl.Bridge) { b.V.Rows[0], b.V.Rows[1] = b.V.Rows[1], b.V.Rows[0] },
		func(b *impl.Bridge) { b.V.Rows[2].Id = 100 },
		func(b *impl.Bridge) { b.V.Rows[2].Members = 8 },
		func(b *impl.Bridge) { b.V.Rows[2].Bare = 1 },
		func(b *impl.Bridge) { b.F[0], b.F[1] = b.F[1], b.F[0] },
		func(b *impl.Bridge) { b.F[2].Port = 8 },
		func(b *impl.Bridge) { b.F[2].Mac = 10000 },
		func(b *impl.Bridge) { b.F = append(b.F, slices.Repeat(b.F[2:], 30)...) },
	} {
		b := quietYard()
		set(&b)
		cannotBeAsked(t, b)
	}
}

// From any name on all that is behind is told, each once, in order.
func TestAllIsToldByTheNext(t *testing.T) {
	for _, b := range []impl.Bridge{quietYard(), impl.BridgeNew(1, 1), yardOf(5, silent(), down(), heardAt(impl.Vec{Root: 1, Bridge: 4}))} {
		l := impl.MibList(b)
		from := strayNames()
		for _, x := range l {
			from = append(from, about(x.O)...)
		}
		for _, o := range from {
			at := slices.IndexFunc(l, func(x impl.Bind) bool { return slices.Compare(x.O, o) > 0 })
			if at < 0 {
				at = len(l)
			}
			if rest := walked(t, b, o); !sameBindParts(rest, l[at:]) {
				t.Errorf("from %v of %+v on: %+v; want %+v", o, b, rest, l[at:])
			}
		}
	}
}

// drawnBridge is a right bridge by a rule that draws numbers below a count.
func drawnBridge(next func(count int) int) impl.Bridge {
	ports := 1 + next(6)
	b := impl.BridgeNew(1+next(99), ports)
	b.Name = "ten bytes."[:next(11)]
	for _, count := range bridgeCounts() {
		*count.of(&b) = next(1000001)
	}
	for port := range ports {
		b.Ports[port].Cost = 1 + next(1000)
		if next(3) > 0 {
			b.Ports[port].Up = true
		}
		if b.Ports[port].Up && next(2) == 0 {
			b.Ports[port].Has = true
			b.Ports[port].Heard = impl.Vec{Root: 1 + next(9), Cost: next(500), Hops: next(11), Bridge: 1 + next(99), Port: next(8)}
		}
	}
	for range next(12) {
		b.V, _ = impl.PutRow(b.V, impl.Vrow{Id: 1 + next(99), Members: next(1 << ports)})
		b.V, _ = impl.SetPvid(b.V, next(ports), b.V.Rows[next(len(b.V.Rows))].Id)
	}
	for range next(20) {
		b.F = impl.Learn(b.F, 1+next(99), 1+next(9999), next(8))
		b.F, _ = impl.SetStatic(b.F, 1+next(9), 1+next(9999), next(8))
	}
	return b
}

func TestBridgesByAFixedRuleAreAsked(t *testing.T) {
	next := drawing(17)
	for range 60 {
		b := drawnBridge(next)
		if !impl.BridgeOk(b) {
			t.Fatalf("BridgeOk(%+v) = false", b)
		}
		canBeAsked(t, b)
		for range 20 {
			var o []int
			for _, n := range []int{1, 3, 1, next(6), next(6), next(100), next(10000), next(3), 0, 0, 0}[:next(12)] {
				if next(20) == 0 {
					n = next(200001) - 50000
				}
				o = append(o, n)
			}
			asksFor(t, b, o)
		}
	}
}

// Whatever happens to bridges, they can be asked; what asks them changes nothing.
func TestBridgesOfANetAreAsked(t *testing.T) {
	next := drawing(71)
	for range 30 {
		n := impl.Rounds(drawnNet(next), next(4))
		for _, b := range n.Bridges {
			l := canBeAsked(t, b)
			// A tick may let entries go, which stand last.
			ahead := 5 + 4*len(b.Ports) + 3*len(b.V.Rows)
			turned := impl.MibList(impl.Tick(b))
			if turned[1].V.N != l[1].V.N+1 || !sameBindParts(turned[2:ahead], l[2:ahead]) {
				t.Errorf("behind a tick of %+v: %+v", b, turned)
			}
		}
	}
}

// Nothing is kept from one call to another.
func TestWhatIsAskedHangsOnWhatIsHandedInAlone(t *testing.T) {
	b := quietYard()
	first := listed(t, b)
	for range 3 {
		for _, x := range []impl.Bridge{{}, impl.BridgeNew(1, 6), yardOf(5, silent())} {
			impl.MibList(x)
			impl.MibGet(x, []int{1, 3, 1, 1, 1})
			impl.MibNext(x, []int{1, 3, 1, 4})
		}
		if again := impl.MibList(b); !sameBindParts(again, first) {
			t.Errorf("%+v; it was %+v", again, first)
		}
	}
}

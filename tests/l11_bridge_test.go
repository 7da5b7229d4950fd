package tests

import (
	"math"
	"slices"
	"strings"
	"testing"

	"loop.example/g00326/impl"
)

// bridgeCounts are the counts of a bridge, by their names.
func bridgeCounts() []struct {
	name string
	of   func(b *impl.Bridge) *int
} {
	return []struct {
		name string
		of   func(b *impl.Bridge) *int
	}{
		{"Ticks", func(b *impl.Bridge) *int { return &b.Ticks }},
		{"Parse", func(b *impl.Bridge) *int { return &b.Parse }},
		{"Word", func(b *impl.Bridge) *int { return &b.Word }},
		{"Drops", func(b *impl.Bridge) *int { return &b.Drops }},
		{"Vers", func(b *impl.Bridge) *int { return &b.Vers }},
	}
}

// copiedBridge is b in other memory, without spare room.
func copiedBridge(b impl.Bridge) impl.Bridge {
	b.Ports, b.F = slices.Clone(b.Ports), slices.Clone(b.F)
	b.V = impl.Vtab{Rows: slices.Clone(b.V.Rows), Pvid: slices.Clone(b.V.Pvid)}
	return b
}

// sameBridgeParts, rightBridge and the models below say the document's words once more, plainly, part by part.
func sameBridgeParts(a impl.Bridge, b impl.Bridge) bool {
	for _, count := range bridgeCounts() {
		if *count.of(&a) != *count.of(&b) {
			return false
		}
	}
	return a.Id == b.Id && a.Name == b.Name && slices.Equal(a.Ports, b.Ports) && slices.Equal(a.F, b.F) && sameVtab(a.V, b.V)
}

func rightBridge(b impl.Bridge) bool {
	for _, count := range bridgeCounts() {
		if n := *count.of(&b); n < 0 || n > 1000000 {
			return false
		}
	}
	for _, p := range b.Ports {
		if !rightPt(p) {
			return false
		}
	}
	ports := len(b.Ports)
	return b.Id >= 1 && b.Id <= 99 && len(b.Name) <= 10 && ports >= 1 && ports <= 6 && rightFdb(b.F) && rightVtab(b.V, ports)
}

func wantOneMore(n int) int {
	if n == 1000000 {
		return n
	}
	return n + 1
}

// wantTurned is what is made of a copy of a bridge when something of it was set.
func wantTurned(b impl.Bridge) impl.Bridge {
	b.Vers = wantOneMore(b.Vers)
	for port := range b.Ports {
		if role := wantRole(b.Id, b.Ports, port); role != 1 && role != 2 {
			b.F = wantFlushed(b.F, port)
		}
	}
	return b
}

// The models answer the bridge, and whether it has turned; where it has not it is as it was.
func wantHear(b impl.Bridge, port int, v impl.Vec) (impl.Bridge, bool) {
	if !rightBridge(b) || port < 0 || port >= len(b.Ports) || !b.Ports[port].Up || !rightVec(v) {
		return b, false
	}
	b = copiedBridge(b)
	b.Ports[port] = impl.Pt{Up: true, Cost: b.Ports[port].Cost, Has: true, Heard: v}
	return wantTurned(b), true
}

func wantLink(b impl.Bridge, port int, up bool) (impl.Bridge, bool) {
	if !rightBridge(b) || port < 0 || port >= len(b.Ports) {
		return b, false
	}
	b = copiedBridge(b)
	b.Ports[port] = impl.Pt{Up: up, Cost: b.Ports[port].Cost}
	return wantTurned(b), true
}

func wantTick(b impl.Bridge) (impl.Bridge, bool) {
	if !rightBridge(b) {
		return b, false
	}
	b = copiedBridge(b)
	b.Ticks = wantOneMore(b.Ticks)
	b.F = wantAged(b.F)
	return wantTurned(b), true
}

// handedTo hands b to a call, with spare room behind its lists and without, and
// wants nothing written there, neither by the call nor by who writes over the answer.
func handedTo(t *testing.T, b impl.Bridge, call func(b impl.Bridge) impl.Bridge) impl.Bridge {
	t.Helper()
	room := copiedBridge(b)
	room.Ports = append(room.Ports, heardAt(impl.Vec{Root: 1, Bridge: 1}), silent())
	room.F = append(room.F, impl.Fent{Tag: 98, Mac: 7, Static: true}, impl.Fent{Tag: 99, Mac: 9999})
	room.V.Rows = append(room.V.Rows, impl.Vrow{Id: 98}, impl.Vrow{Id: 99, Members: 1})
	room.V.Pvid = append(room.V.Pvid, 1, 98)
	kept := copiedBridge(room)
	var answer impl.Bridge
	for _, spare := range []int{2, 0} {
		handed := b
		handed.Ports = room.Ports[: len(b.Ports) : len(b.Ports)+spare]
		handed.F = room.F[: len(b.F) : len(b.F)+spare]
		handed.V.Rows = room.V.Rows[: len(b.V.Rows) : len(b.V.Rows)+spare]
		handed.V.Pvid = room.V.Pvid[: len(b.V.Pvid) : len(b.V.Pvid)+spare]
		got := call(handed)
		answer = copiedBridge(got)
		overwrite(got.Ports, impl.Pt{Up: true, Cost: -7, Has: true})
		overwrite(got.F, impl.Fent{Tag: -7, Mac: -7, Port: -7, Age: -7, Static: true})
		overwrite(got.V.Rows, impl.Vrow{Id: -7, Members: -7, Bare: -7})
		overwrite(got.V.Pvid, -7)
		if !sameBridgeParts(room, kept) {
			t.Fatalf("%+v was written: %+v", kept, room)
		}
	}
	return answer
}

// nobodyLeft wants nobody but who is static at ports of the bridge that do not send.
func nobodyLeft(t *testing.T, b impl.Bridge) {
	t.Helper()
	sends := impl.Sends(b.Id, b.Ports)
	for _, e := range b.F {
		if !e.Static && e.Port < len(b.Ports) && !hasBit(sends, e.Port) {
			t.Errorf("%+v is left at a port that does not send: %+v", e, b)
		}
	}
}

// becomes wants a call to answer what its model does, and, where the bridge has turned, the promise of it.
func becomes(t *testing.T, b impl.Bridge, call func(b impl.Bridge) impl.Bridge, want impl.Bridge, turned bool, what ...any) impl.Bridge {
	t.Helper()
	got := handedTo(t, b, call)
	if !sameBridgeParts(got, want) {
		t.Errorf("%+v of %+v = %+v; want %+v", what, b, got, want)
	}
	if !impl.SameBridge(got, want) {
		t.Errorf("SameBridge(%+v, %+v) = false", got, want)
	}
	if turned {
		nobodyLeft(t, got)
		if !impl.BridgeOk(got) || impl.SameBridge(got, b) && b.Vers < 1000000 {
			t.Errorf("%+v of %+v = %+v: it is not right, or as it was", what, b, got)
		}
	} else if !sameBridgeParts(got, b) {
		t.Errorf("%+v of %+v = %+v; want it as it is", what, b, got)
	}
	return got
}

func hears(t *testing.T, b impl.Bridge, port int, v impl.Vec) impl.Bridge {
	t.Helper()
	want, turned := wantHear(b, port, v)
	return becomes(t, b, func(b impl.Bridge) impl.Bridge { return impl.HearVec(b, port, v) }, want, turned, "HearVec", port, v)
}

func links(t *testing.T, b impl.Bridge, port int, up bool) impl.Bridge {
	t.Helper()
	want, turned := wantLink(b, port, up)
	return becomes(t, b, func(b impl.Bridge) impl.Bridge { return impl.LinkSet(b, port, up) }, want, turned, "LinkSet", port, up)
}

func ticks(t *testing.T, b impl.Bridge) impl.Bridge {
	t.Helper()
	want, turned := wantTick(b)
	return becomes(t, b, impl.Tick, want, turned, "Tick")
}

// isBridge wants b to be right, or not, and each of the three calls to answer as told.
func isBridge(t *testing.T, b impl.Bridge, want bool) {
	t.Helper()
	handedTo(t, b, func(b impl.Bridge) impl.Bridge {
		if impl.BridgeOk(b) != want || rightBridge(b) != want {
			t.Errorf("BridgeOk(%+v) = %v; want %v", b, !want, want)
		}
		return impl.Bridge{}
	})
	for port := -1; port <= len(b.Ports); port++ {
		hears(t, b, port, impl.Vec{Root: 1, Cost: 3, Bridge: 1, Port: 2})
		links(t, b, port, true)
		links(t, b, port, false)
	}
	ticks(t, b)
}

// asItWas wants b to be wrong, and each of the three calls to answer it as it is.
func asItWas(t *testing.T, b impl.Bridge) {
	t.Helper()
	isBridge(t, b, false)
	for port := -1; port <= max(6, len(b.Ports)); port++ {
		for _, x := range []impl.Bridge{impl.HearVec(b, port, impl.Vec{Root: 1, Bridge: 1}), impl.LinkSet(b, port, true), impl.LinkSet(b, port, false), impl.Tick(b)} {
			if !sameBridgeParts(x, b) {
				t.Errorf("at the port %d of %+v: %+v; want it as it is", port, b, x)
			}
		}
	}
}

// yardOf is the bridge of this Id with these ports; at each of them stands
// somebody who was learned, and somebody static.
func yardOf(id int, ports ...impl.Pt) impl.Bridge {
	b := impl.Bridge{Id: id, Name: "yard", Ports: ports, Ticks: 11, Parse: 12, Word: 13, Drops: 14, Vers: 15}
	all := 1<<len(ports) - 1
	b.V.Rows = []impl.Vrow{{Id: 1, Members: all, Bare: all}, {Id: 20, Members: all & 5, Bare: all & 4}}
	for port := range ports {
		b.F = append(b.F, impl.Fent{Tag: 1, Mac: 10 + port, Port: port, Age: port % 5})
		b.V.Pvid = append(b.V.Pvid, 1)
	}
	for port := range ports {
		b.F = append(b.F, impl.Fent{Tag: 20, Mac: 10 + port, Port: port, Static: true})
	}
	return b
}

// standing are the ports of those who were learned, and how many are static.
func standing(l []impl.Fent) ([]int, int) {
	var learned []int
	static := 0
	for _, e := range l {
		if e.Static {
			static++
		} else {
			learned = append(learned, e.Port)
		}
	}
	return learned, static
}

// stands wants just these ports to have who was learned, and all who are static to be there.
func stands(t *testing.T, b impl.Bridge, static int, ports ...int) {
	t.Helper()
	if learned, fixed := standing(b.F); !slices.Equal(learned, ports) || fixed != static {
		t.Errorf("learned at %v, and %d static; want %v and %d: %+v", learned, fixed, ports, static, b)
	}
}

func TestNewBridges(t *testing.T) {
	all := []int{0, 1, 3, 7, 15, 31, 63}
	for id := 1; id <= 99; id++ {
		for ports := 1; ports <= 6; ports++ {
			b := impl.BridgeNew(id, ports)
			want := impl.Bridge{Id: id}
			want.V.Rows = []impl.Vrow{{Id: 1, Members: all[ports], Bare: all[ports]}}
			for range ports {
				want.Ports = append(want.Ports, impl.Pt{Cost: 1})
				want.V.Pvid = append(want.V.Pvid, 1)
			}
			if !sameBridgeParts(b, want) || !impl.BridgeOk(b) || !impl.SameBridge(b, want) {
				t.Errorf("BridgeNew(%d, %d) = %+v; want %+v", id, ports, b, want)
			}
			if id == 1 || id == 50 || id == 99 {
				isBridge(t, b, true)
			}
		}
	}
}

func TestNewBridgesThatAreNone(t *testing.T) {
	for _, id := range []int{0, -1, -99, 100, 101, 1<<32 + 1, math.MaxInt, math.MinInt, 1, 50, 99} {
		for _, ports := range []int{0, -1, -6, 7, 8, 64, 1<<32 + 1, math.MaxInt, math.MinInt, 1, 3, 6} {
			if id >= 1 && id <= 99 && ports >= 1 && ports <= 6 {
				continue
			}
			b := impl.BridgeNew(id, ports)
			if !sameBridgeParts(b, impl.Bridge{}) || impl.BridgeOk(b) {
				t.Errorf("BridgeNew(%d, %d) = %+v", id, ports, b)
			}
		}
	}
	asItWas(t, impl.Bridge{})
	asItWas(t, impl.Bridge{Ports: []impl.Pt{}, F: []impl.Fent{}, V: impl.Vtab{Rows: []impl.Vrow{}, Pvid: []int{}}})
}

func TestNewBridgesAreNewEachTime(t *testing.T) {
	b := impl.BridgeNew(5, 3)
	overwrite(b.Ports, impl.Pt{})
	overwrite(b.V.Rows, impl.Vrow{})
	overwrite(b.V.Pvid, 0)
	if b = impl.BridgeNew(5, 3); !impl.BridgeOk(b) || b.Ports[0].Cost != 1 || b.V.Rows[0].Members != 7 {
		t.Errorf("behind one that was written over: %+v", b)
	}
}

func TestIdsOfBridges(t *testing.T) {
	for _, id := range []int{1, 2, 98, 99} {
		isBridge(t, yardOf(id, silent(), down()), true)
	}
	for _, id := range []int{0, -1, -2, -99, 100, 101, 1<<32 + 1, math.MaxInt, math.MinInt} {
		asItWas(t, yardOf(id, silent(), down()))
	}
}

// A Name is counted by its bytes, and these may be any.
func TestNamesOfBridges(t *testing.T) {
	b := yardOf(5, silent(), down())
	for _, name := range []string{"", "a", "nine byte", "ten bytes.", strings.Repeat("\x00", 10), strings.Repeat("\xff", 10), strings.Repeat("é", 5), "\n' \xe2\x82"} {
		b.Name = name
		isBridge(t, b, true)
		if x := impl.Tick(b); x.Name != name {
			t.Errorf("the Name %q is %q", name, x.Name)
		}
	}
	for _, name := range []string{"eleven-byte", strings.Repeat("é", 5) + "a", strings.Repeat("é", 6), "€€€€", strings.Repeat("\x00", 11), strings.Repeat("a", 12), strings.Repeat("a", 1000)} {
		b.Name = name
		asItWas(t, b)
	}
}

func TestCountsOfBridges(t *testing.T) {
	for _, count := range bridgeCounts() {
		for _, n := range []int{0, 1, 500000, 999998, 999999, 1000000} {
			b := yardOf(5, silent(), down())
			*count.of(&b) = n
			isBridge(t, b, true)
		}
		for _, n := range []int{-1, -2, -1000000, 1000001, 1000002, 1 << 32, math.MaxInt, math.MinInt} {
			b := yardOf(5, silent(), down())
			*count.of(&b) = n
			asItWas(t, b)
		}
	}
}

// Vers is one more by each of the three, Ticks by a tick alone, and the others by none; at their most both stay.
func TestCountsThatStay(t *testing.T) {
	for _, n := range []struct{ count, next int }{{0, 1}, {999998, 999999}, {999999, 1000000}, {1000000, 1000000}} {
		b := yardOf(5, silent(), silent())
		b.Ticks, b.Parse, b.Word, b.Drops, b.Vers = n.count, n.count, n.count, n.count, n.count
		for _, x := range []impl.Bridge{hears(t, b, 0, impl.Vec{Root: 1, Bridge: 1}), links(t, b, 0, false), links(t, b, 1, true)} {
			if x.Vers != n.next || x.Ticks != n.count || x.Parse != n.count || x.Word != n.count || x.Drops != n.count {
				t.Errorf("counts of %d: %+v", n.count, x)
			}
		}
		if x := ticks(t, b); x.Vers != n.next || x.Ticks != n.next || x.Parse != n.count || x.Word != n.count || x.Drops != n.count {
			t.Errorf("counts of %d behind a tick: %+v", n.count, x)
		}
	}
}

// One count stays at its most while the other goes on, and all else is done.
func TestOneCountThatStays(t *testing.T) {
	b := yardOf(5, silent(), down())
	b.Vers = 1000000
	x := ticks(t, b)
	if x.Vers != 1000000 || x.Ticks != 12 || x.F[0].Age != 1 {
		t.Errorf("the most of Vers: %+v", x)
	}
	stands(t, x, 2, 0)
	b.Vers, b.Ticks = 15, 1000000
	x = ticks(t, b)
	if x.Vers != 16 || x.Ticks != 1000000 || x.F[0].Age != 1 {
		t.Errorf("the most of Ticks: %+v", x)
	}
	b.Vers = 1000000
	x = hears(t, links(t, b, 0, true), 0, impl.Vec{Root: 5, Bridge: 1})
	if x.Vers != 1000000 || x.Ticks != 1000000 || !x.Ports[0].Has {
		t.Errorf("the most of both: %+v", x)
	}
	stands(t, x, 2)
}

func TestNumbersOfPorts(t *testing.T) {
	for ports := range 9 {
		isBridge(t, yardOf(5, slices.Repeat([]impl.Pt{silent()}, min(ports, 6))...), ports > 0)
		b := impl.Bridge{Id: 5, Ports: slices.Repeat([]impl.Pt{silent()}, ports)}
		for of := range 9 {
			b.V = impl.VtabNew(of)
			isBridge(t, b, ports == of && ports >= 1 && ports <= 6)
			b.V = impl.Vtab{Rows: []impl.Vrow{{Id: 1, Members: 1}}, Pvid: slices.Repeat([]int{1}, of)}
			isBridge(t, b, ports == of && ports >= 1 && ports <= 6)
		}
	}
	b := impl.Bridge{Id: 5, Ports: slices.Repeat([]impl.Pt{silent()}, 70), V: impl.VtabNew(6)}
	asItWas(t, b)
}

// A port is wrong at each place of the list.
func TestPortsThatAreWrongInBridges(t *testing.T) {
	v := impl.Vec{Root: 1, Cost: 10, Hops: 2, Bridge: 3, Port: 4}
	wrong := []impl.Pt{{}, {Up: true}, {Up: true, Cost: -1}, {Cost: 1001}, {Up: true, Cost: 1001}, {Cost: 1, Has: true, Heard: v}, {Cost: 1, Has: true}, {Up: true, Cost: 1, Has: true}, {Up: true, Cost: 1, Heard: v}, {Cost: 1, Heard: v}, heardAt(impl.Vec{Root: 100, Bridge: 1}), heardAt(impl.Vec{Root: 1, Bridge: 1, Port: 8}), {Up: true, Cost: 1001, Has: true, Heard: v}}
	for ports := 1; ports <= 6; ports++ {
		b := yardOf(5, slices.Repeat([]impl.Pt{heardAt(v)}, ports)...)
		isBridge(t, b, true)
		for at := range ports {
			for _, p := range wrong {
				x := copiedBridge(b)
				x.Ports[at] = p
				asItWas(t, x)
			}
			for _, p := range []impl.Pt{{Cost: 1000}, {Up: true, Cost: 1000}, {Up: true, Cost: 1000, Has: true, Heard: v}, heardAt(impl.Vec{Root: 99, Cost: 100000, Hops: 10, Bridge: 99, Port: 7})} {
				x := copiedBridge(b)
				x.Ports[at] = p
				isBridge(t, x, true)
			}
		}
	}
}

func TestWhoIsWhereThatIsWrong(t *testing.T) {
	b := yardOf(5, silent(), down(), silent())
	wrong := [][]impl.Fent{
		{{}},
		{{Tag: 1}},
		{{Tag: 0, Mac: 1}},
		{{Tag: 100, Mac: 1}},
		{{Tag: 1, Mac: 10000}},
		{{Tag: 1, Mac: 1, Port: 8}},
		{{Tag: 1, Mac: 1, Port: -1}},
		{{Tag: 1, Mac: 1, Age: 5}},
		{{Tag: 1, Mac: 1, Age: -1}},
		{{Tag: 1, Mac: 1, Age: 1, Static: true}},
		{{Tag: 1, Mac: 2}, {Tag: 1, Mac: 1}},
		{{Tag: 2, Mac: 1}, {Tag: 1, Mac: 2}},
		{{Tag: 1, Mac: 1}, {Tag: 1, Mac: 1}},
		{{Tag: 1, Mac: 1, Port: 1}, {Tag: 1, Mac: 1, Port: 2, Static: true}},
		append(fullFdb(), impl.Fent{Tag: 99, Mac: 1}),
	}
	for _, l := range wrong {
		b.F = l
		asItWas(t, b)
	}
	for _, l := range [][]impl.Fent{nil, {}, {{Tag: 1, Mac: 1}}, {{Tag: 99, Mac: 9999, Port: 7, Age: 4}}, {{Tag: 99, Mac: 9999, Port: 7, Static: true}}, fullFdb()} {
		b.F = l
		isBridge(t, b, true)
	}
}

func TestNetworksThatAreWrong(t *testing.T) {
	b := yardOf(5, silent(), down(), silent())
	wrong := []impl.Vtab{
		{},
		{Rows: []impl.Vrow{{Id: 1, Members: 7}}},
		{Pvid: []int{1, 1, 1}},
		{Rows: []impl.Vrow{{Id: 1, Members: 7}}, Pvid: []int{1, 1}},
		{Rows: []impl.Vrow{{Id: 1, Members: 7}}, Pvid: []int{1, 1, 1, 1}},
		{Rows: []impl.Vrow{{Id: 1, Members: 7}}, Pvid: []int{1, 2, 1}},
		{Rows: []impl.Vrow{{Id: 0, Members: 7}}, Pvid: []int{0, 0, 0}},
		{Rows: []impl.Vrow{{Id: 100, Members: 7}}, Pvid: []int{100, 100, 100}},
		{Rows: []impl.Vrow{{Id: 1, Members: 8}}, Pvid: []int{1, 1, 1}},
		{Rows: []impl.Vrow{{Id: 1, Members: -1}}, Pvid: []int{1, 1, 1}},
		{Rows: []impl.Vrow{{Id: 1, Members: 5, Bare: 2}}, Pvid: []int{1, 1, 1}},
		{Rows: []impl.Vrow{{Id: 2, Members: 7}, {Id: 1, Members: 7}}, Pvid: []int{1, 1, 1}},
		{Rows: []impl.Vrow{{Id: 1, Members: 7}, {Id: 1, Members: 7}}, Pvid: []int{1, 1, 1}},
		{Rows: tensVtab(3, 7).Rows, Pvid: []int{10, 10, 10}},
	}
	for _, v := range wrong {
		b.V = v
		asItWas(t, b)
	}
	for _, v := range []impl.Vtab{impl.VtabNew(3), tensVtab(3, 1), tensVtab(3, 6), {Rows: []impl.Vrow{{Id: 99}}, Pvid: []int{99, 99, 99}}} {
		b.V = v
		isBridge(t, b, true)
	}
}

// What a bridge is refused for may be wrong in several parts at once.
func TestBridgesThatAreWrongInSeveralParts(t *testing.T) {
	right := yardOf(5, silent(), heardAt(impl.Vec{Root: 1, Bridge: 1}))
	spoil := []func(b *impl.Bridge){
		func(b *impl.Bridge) { b.Id = 0 },
		func(b *impl.Bridge) { b.Name = "eleven-byte" },
		func(b *impl.Bridge) { b.Ports[1].Cost = 0 },
		func(b *impl.Bridge) { b.F[0].Age = 5 },
		func(b *impl.Bridge) { b.V.Pvid[0] = 2 },
		func(b *impl.Bridge) { b.Ticks = -1 },
		func(b *impl.Bridge) { b.Vers = 1000001 },
	}
	for bits := range 1 << len(spoil) {
		b := copiedBridge(right)
		for i, spoiled := range spoil {
			if hasBit(bits, i) {
				spoiled(&b)
			}
		}
		isBridge(t, b, bits == 0)
	}
}

func TestLinksThatAreSetUpAndTakenDown(t *testing.T) {
	b := impl.BridgeNew(5, 3)
	b = links(t, b, 1, true)
	if b.Vers != 1 || b.Ports[0].Up || !b.Ports[1].Up || b.Ports[2].Up || b.Ports[1].Cost != 1 || b.Ports[1].Has {
		t.Fatalf("one link up: %+v", b)
	}
	b.Ports[1].Cost = 700
	b = hears(t, b, 1, impl.Vec{Root: 2, Cost: 30, Hops: 3, Bridge: 4, Port: 6})
	if b.Vers != 2 || b.Ports[1] != (impl.Pt{Up: true, Cost: 700, Has: true, Heard: impl.Vec{Root: 2, Cost: 30, Hops: 3, Bridge: 4, Port: 6}}) {
		t.Fatalf("a vector heard: %+v", b)
	}
	x := links(t, b, 1, false)
	if x.Vers != 3 || x.Ports[1] != (impl.Pt{Cost: 700}) {
		t.Errorf("the link down: %+v", x)
	}
	if y := links(t, x, 1, true); y.Vers != 4 || y.Ports[1] != (impl.Pt{Up: true, Cost: 700}) {
		t.Errorf("and up again, without what was heard: %+v", y)
	}
	if y := links(t, x, 1, false); y.Vers != 4 || y.Ports[1] != (impl.Pt{Cost: 700}) {
		t.Errorf("down once more: %+v", y)
	}
	if y := links(t, b, 1, true); y.Vers != 3 || y.Ports[1] != (impl.Pt{Up: true, Cost: 700}) {
		t.Errorf("up while it is up, without what was heard: %+v", y)
	}
	for _, port := range []int{0, 2} {
		if y := links(t, b, port, true); y.Vers != 3 || y.Ports[1] != b.Ports[1] || y.Ports[port] != (impl.Pt{Up: true, Cost: 1}) {
			t.Errorf("the other link %d: %+v", port, y)
		}
	}
}

// The first port, the last one, and those beyond either, of each number of ports.
func TestPortsOfBridgesThatAreNotThere(t *testing.T) {
	v := impl.Vec{Root: 1, Cost: 3, Bridge: 1}
	for ports := 1; ports <= 6; ports++ {
		b := yardOf(5, slices.Repeat([]impl.Pt{silent()}, ports)...)
		for _, port := range portsAround(b.Ports) {
			there := port >= 0 && port < ports
			for _, x := range []impl.Bridge{hears(t, b, port, v), links(t, b, port, true), links(t, b, port, false)} {
				if there && x.Vers != 16 || !there && !sameBridgeParts(x, b) {
					t.Errorf("the port %d of %d: %+v", port, ports, x)
				}
			}
			if x := impl.HearVec(b, port, v); there && !x.Ports[port].Has {
				t.Errorf("the port %d of %d has not heard: %+v", port, ports, x)
			}
		}
	}
}

func TestVectorsThatAreNotHeard(t *testing.T) {
	b := yardOf(5, silent(), down(), heardAt(impl.Vec{Root: 4, Cost: 9, Hops: 1, Bridge: 4}))
	for _, field := range vecFields() {
		for _, n := range []int{field.least - 2, field.least - 1, field.least, field.least + 1, field.most - 1, field.most, field.most + 1, field.most + 2, -field.most, 1 << 32, math.MaxInt, math.MinInt} {
			v := impl.Vec{Root: 3, Cost: 300, Hops: 4, Bridge: 5, Port: 6}
			field.set(&v, n)
			right := n >= field.least && n <= field.most
			for port, up := range []bool{true, false, true} {
				x := hears(t, b, port, v)
				if right && up && (x.Vers != 16 || x.Ports[port].Heard != v || !x.Ports[port].Has) || !(right && up) && !sameBridgeParts(x, b) {
					t.Errorf("%s %d at the port %d: %+v", field.name, n, port, x)
				}
			}
		}
	}
	for port := range 3 {
		if x := hears(t, b, port, impl.Vec{}); !sameBridgeParts(x, b) {
			t.Errorf("no vector at the port %d: %+v", port, x)
		}
	}
}

// Where the answer is b, nobody goes, even from ports that do not send.
func TestNobodyGoesWhereNothingTurns(t *testing.T) {
	b := yardOf(5, silent(), down(), heardAt(impl.Vec{Root: 5, Bridge: 1}))
	for _, x := range []impl.Bridge{hears(t, b, 1, impl.Vec{Root: 1, Bridge: 1}), hears(t, b, 0, impl.Vec{}), hears(t, b, 3, impl.Vec{Root: 1, Bridge: 1}), links(t, b, 3, true), links(t, b, -1, false)} {
		stands(t, x, 3, 0, 1, 2)
		if x.Vers != 15 {
			t.Errorf("Vers of %+v", x)
		}
	}
	stands(t, ticks(t, b), 3, 0)
	stands(t, links(t, b, 0, true), 3, 0)
	stands(t, hears(t, b, 0, impl.Vec{Root: 9, Bridge: 9}), 3, 0)
}

// Another port becomes the one for the root; who stands at the one that was goes, where that is idle then.
func TestAnotherPortForTheRoot(t *testing.T) {
	b := yardOf(7, heardAt(impl.Vec{Root: 1, Cost: 10, Hops: 1, Bridge: 3}), silent(), silent(), down())
	rolesAre(t, 7, b.Ports, impl.RoRoot, impl.RoTold, impl.RoTold, impl.RoDown)
	x := hears(t, b, 1, impl.Vec{Root: 1, Cost: 8, Hops: 1, Bridge: 4})
	rolesAre(t, 7, x.Ports, impl.RoTold, impl.RoRoot, impl.RoTold, impl.RoDown)
	stands(t, x, 4, 0, 1, 2)
	x = hears(t, b, 1, impl.Vec{Root: 1, Cost: 10, Hops: 1, Bridge: 2})
	rolesAre(t, 7, x.Ports, impl.RoIdle, impl.RoRoot, impl.RoTold, impl.RoDown)
	stands(t, x, 4, 1, 2)
	x = hears(t, x, 0, impl.Vec{Root: 1, Cost: 9, Hops: 1, Bridge: 3})
	rolesAre(t, 7, x.Ports, impl.RoRoot, impl.RoIdle, impl.RoTold, impl.RoDown)
	stands(t, x, 4, 2)
	x = links(t, x, 0, false)
	rolesAre(t, 7, x.Ports, impl.RoDown, impl.RoRoot, impl.RoTold, impl.RoDown)
	stands(t, x, 4, 2)
}

// The port for the root stays, or there is none; what is heard makes its own port idle, or does not.
func TestNoOtherPortForTheRoot(t *testing.T) {
	b := yardOf(7, heardAt(impl.Vec{Root: 1, Cost: 10, Hops: 1, Bridge: 3}), silent(), silent())
	x := hears(t, b, 1, impl.Vec{Root: 1, Cost: 10, Hops: 1, Bridge: 4})
	rolesAre(t, 7, x.Ports, impl.RoRoot, impl.RoIdle, impl.RoTold)
	stands(t, x, 3, 0, 2)
	x = hears(t, b, 1, impl.Vec{Root: 1, Cost: 11, Hops: 1, Bridge: 8})
	rolesAre(t, 7, x.Ports, impl.RoRoot, impl.RoTold, impl.RoTold)
	stands(t, x, 3, 0, 1, 2)
	b = yardOf(1, silent(), silent(), silent())
	x = hears(t, b, 2, impl.Vec{Root: 2, Bridge: 2})
	rolesAre(t, 1, x.Ports, impl.RoTold, impl.RoTold, impl.RoTold)
	stands(t, x, 3, 0, 1, 2)
}

// The root is heard further off at its own port, so that another port, which was idle, counts.
func TestPortForTheRootThatHearsWorse(t *testing.T) {
	b := yardOf(7, heardAt(impl.Vec{Root: 1, Cost: 10, Bridge: 3}), heardAt(impl.Vec{Root: 1, Cost: 11, Bridge: 4}), silent())
	rolesAre(t, 7, b.Ports, impl.RoRoot, impl.RoIdle, impl.RoTold)
	x := hears(t, b, 0, impl.Vec{Root: 1, Cost: 12, Bridge: 3})
	rolesAre(t, 7, x.Ports, impl.RoIdle, impl.RoRoot, impl.RoTold)
	stands(t, x, 3, 1, 2)
	x = hears(t, b, 0, impl.Vec{Root: 2, Bridge: 2})
	rolesAre(t, 7, x.Ports, impl.RoTold, impl.RoRoot, impl.RoTold)
	stands(t, x, 3, 0, 1, 2)
}

func TestSameVectorHeardTwice(t *testing.T) {
	v := impl.Vec{Root: 1, Cost: 10, Hops: 1, Bridge: 3}
	b := hears(t, yardOf(7, silent(), silent()), 0, v)
	x := hears(t, b, 0, v)
	if x.Vers != b.Vers+1 || x.Ports[0] != b.Ports[0] {
		t.Errorf("%+v, heard twice: %+v", b, x)
	}
	x.Vers = b.Vers
	if !impl.SameBridge(x, b) {
		t.Errorf("%+v; want it as it was but for Vers: %+v", x, b)
	}
}

// What was heard is forgotten with the link, at the port for the root and at another.
func TestLinksTakenDownWhereAVectorWasHeard(t *testing.T) {
	b := yardOf(7, heardAt(impl.Vec{Root: 1, Cost: 10, Bridge: 3}), heardAt(impl.Vec{Root: 1, Cost: 10, Bridge: 4}), silent(), down())
	rolesAre(t, 7, b.Ports, impl.RoRoot, impl.RoIdle, impl.RoTold, impl.RoDown)
	x := links(t, b, 0, false)
	rolesAre(t, 7, x.Ports, impl.RoDown, impl.RoRoot, impl.RoTold, impl.RoDown)
	stands(t, x, 4, 1, 2)
	x = links(t, b, 0, true)
	rolesAre(t, 7, x.Ports, impl.RoTold, impl.RoRoot, impl.RoTold, impl.RoDown)
	stands(t, x, 4, 0, 1, 2)
	x = links(t, b, 1, false)
	rolesAre(t, 7, x.Ports, impl.RoRoot, impl.RoDown, impl.RoTold, impl.RoDown)
	stands(t, x, 4, 0, 2)
	x = links(t, b, 1, true)
	rolesAre(t, 7, x.Ports, impl.RoRoot, impl.RoTold, impl.RoTold, impl.RoDown)
	stands(t, x, 4, 0, 1, 2)
	stands(t, links(t, b, 2, false), 4, 0)
	stands(t, links(t, b, 3, true), 4, 0, 2, 3)
	stands(t, links(t, b, 3, false), 4, 0, 2)
}

// Link by link all go down: at last nobody who was learned is left, and nobody comes back with the links.
func TestAllLinksDown(t *testing.T) {
	for ports := 1; ports <= 6; ports++ {
		b := yardOf(7, slices.Repeat([]impl.Pt{silent()}, ports)...)
		for port := range ports {
			b = links(t, b, port, false)
		}
		stands(t, b, ports)
		if b.Vers != 15+ports || impl.Sends(7, b.Ports) != 0 {
			t.Errorf("all down: %+v", b)
		}
		for port := range ports {
			b = links(t, b, port, true)
		}
		stands(t, b, ports)
	}
}

func TestTicks(t *testing.T) {
	b := yardOf(7, slices.Repeat([]impl.Pt{silent()}, 6)...)
	x := ticks(t, b)
	if x.Ticks != 12 || x.Vers != 16 || !slices.Equal(x.Ports, b.Ports) || !sameVtab(x.V, b.V) {
		t.Errorf("a tick: %+v", x)
	}
	// Of Age 4 was who stands at the port 4.
	stands(t, x, 6, 0, 1, 2, 3, 5)
	for i, age := range []int{1, 2, 3, 4, 1} {
		if x.F[i].Age != age {
			t.Errorf("the Age of %+v; want %d", x.F[i], age)
		}
	}
	stands(t, ticks(t, x), 6, 0, 1, 2, 5)
	for range 5 {
		x = ticks(t, x)
	}
	stands(t, x, 6)
	if x.Ticks != 17 || x.Vers != 21 {
		t.Errorf("six ticks: %+v", x)
	}
	b.F = b.F[:4]
	stands(t, ticks(t, b), 0, 0, 1, 2, 3)
	b.F = nil
	if x := ticks(t, b); len(x.F) != 0 || x.Ticks != 12 || x.Vers != 16 {
		t.Errorf("a tick with nobody there: %+v", x)
	}
}

// By a tick, too, those go who came to ports that do not send.
func TestTicksFlush(t *testing.T) {
	b := yardOf(7, heardAt(impl.Vec{Root: 1, Bridge: 3}), heardAt(impl.Vec{Root: 1, Bridge: 4}), down(), silent())
	x := ticks(t, b)
	rolesAre(t, 7, x.Ports, impl.RoRoot, impl.RoIdle, impl.RoDown, impl.RoTold)
	stands(t, x, 4, 0, 3)
	stands(t, ticks(t, impl.BridgeNew(7, 3)), 0)
	b = impl.BridgeNew(7, 3)
	b.F = impl.Learn(impl.Learn(nil, 1, 11, 0), 1, 12, 7)
	stands(t, ticks(t, b), 0, 7)
}

// Who stands at a port that the bridge has not is not at one of its ports.
func TestWhoStandsAtNoPortOfTheBridge(t *testing.T) {
	for ports := 1; ports <= 6; ports++ {
		b := yardOf(7, slices.Repeat([]impl.Pt{down()}, ports)...)
		b.F = nil
		var beyond []int
		for port := range 8 {
			b.F = append(b.F, impl.Fent{Tag: 5, Mac: 1 + port, Port: port})
			if port >= ports {
				beyond = append(beyond, port)
			}
		}
		if !impl.BridgeOk(b) {
			t.Errorf("BridgeOk(%+v) = false", b)
		}
		stands(t, ticks(t, b), 0, beyond...)
		stands(t, links(t, b, ports-1, false), 0, beyond...)
		up := links(t, b, 0, true)
		stands(t, up, 0, append([]int{0}, beyond...)...)
		stands(t, hears(t, up, 0, impl.Vec{Root: 7, Bridge: 1}), 0, beyond...)
	}
}

// Somebody of a full list stands at a port that does not send, whichever it is.
func TestFullListsThatAreFlushed(t *testing.T) {
	for bits := range 64 {
		b := yardOf(7, slices.Repeat([]impl.Pt{down()}, 6)...)
		b.F = fullFdb()
		for port := range 6 {
			b.Ports[port].Up = hasBit(bits, port)
		}
		x := ticks(t, b)
		for _, e := range b.F {
			at := placeOf(x.F, e.Tag, e.Mac)
			left := e.Static || e.Age < 4 && (e.Port > 5 || hasBit(bits, e.Port))
			if (at >= 0) != left {
				t.Errorf("%b up: %+v is at %d of %+v", bits, e, at, x.F)
			}
		}
		for port := range 6 {
			links(t, b, port, true)
			links(t, b, port, false)
			hears(t, b, port, impl.Vec{Root: 7, Bridge: 6})
		}
	}
}

// otherBridges differ from the one that is handed in in one thing each.
func otherBridges(b impl.Bridge) []impl.Bridge {
	var all []impl.Bridge
	change := func(make func(x *impl.Bridge)) {
		x := copiedBridge(b)
		make(&x)
		all = append(all, x)
	}
	for _, count := range bridgeCounts() {
		change(func(x *impl.Bridge) { *count.of(x)++ })
		change(func(x *impl.Bridge) { *count.of(x) = -*count.of(x) })
	}
	change(func(x *impl.Bridge) { x.Id++ })
	change(func(x *impl.Bridge) { x.Name += " " })
	change(func(x *impl.Bridge) { x.Name = "Yard" })
	change(func(x *impl.Bridge) { x.Name = "" })
	for _, at := range []int{0, len(b.Ports) - 1} {
		change(func(x *impl.Bridge) { x.Ports[at].Up = !x.Ports[at].Up })
		change(func(x *impl.Bridge) { x.Ports[at].Cost++ })
		change(func(x *impl.Bridge) { x.Ports[at].Has = !x.Ports[at].Has })
		for _, field := range vecFields() {
			change(func(x *impl.Bridge) { field.set(&x.Ports[at].Heard, 77) })
		}
	}
	for _, at := range []int{0, len(b.F) - 1} {
		change(func(x *impl.Bridge) { x.F[at].Static = !x.F[at].Static })
		for _, field := range fentFields() {
			change(func(x *impl.Bridge) { field.set(&x.F[at], 77) })
		}
	}
	for _, at := range []int{0, len(b.V.Rows) - 1} {
		change(func(x *impl.Bridge) { x.V.Rows[at].Id++ })
		change(func(x *impl.Bridge) { x.V.Rows[at].Members ^= 2 })
		change(func(x *impl.Bridge) { x.V.Rows[at].Bare ^= 2 })
	}
	change(func(x *impl.Bridge) { x.V.Pvid[0] = 20 })
	change(func(x *impl.Bridge) { x.V.Pvid[len(x.V.Pvid)-1] = 20 })
	change(func(x *impl.Bridge) { x.Ports = x.Ports[1:] })
	change(func(x *impl.Bridge) { x.Ports = append(x.Ports, down()) })
	change(func(x *impl.Bridge) { x.F = x.F[1:] })
	change(func(x *impl.Bridge) { x.F = append(x.F, impl.Fent{}) })
	change(func(x *impl.Bridge) { x.V.Rows = x.V.Rows[:1] })
	change(func(x *impl.Bridge) { x.V.Rows = append(x.V.Rows, impl.Vrow{}) })
	change(func(x *impl.Bridge) { x.V.Pvid = x.V.Pvid[1:] })
	change(func(x *impl.Bridge) { x.V.Pvid = append(x.V.Pvid, 1) })
	change(func(x *impl.Bridge) { x.Ports = nil })
	change(func(x *impl.Bridge) { x.F = nil })
	change(func(x *impl.Bridge) { x.V = impl.Vtab{} })
	change(func(x *impl.Bridge) { slices.Reverse(x.Ports) })
	change(func(x *impl.Bridge) { slices.Reverse(x.F) })
	change(func(x *impl.Bridge) { x.Parse, x.Word = x.Word, x.Parse })
	return append(all, impl.Bridge{})
}

func TestBridgesThatDifferInOneThing(t *testing.T) {
	b := yardOf(5, heardAt(impl.Vec{Root: 1, Cost: 3, Hops: 2, Bridge: 4, Port: 5}), silent(), down())
	if !impl.SameBridge(b, copiedBridge(b)) || !impl.SameBridge(b, b) {
		t.Errorf("SameBridge(%+v) of itself = false", b)
	}
	others := otherBridges(b)
	for i, x := range others {
		if impl.SameBridge(b, x) || impl.SameBridge(x, b) || sameBridgeParts(b, x) {
			t.Errorf("SameBridge(%+v, %+v) = true", b, x)
		}
		for j, y := range others {
			if impl.SameBridge(x, y) != (i == j) {
				t.Errorf("SameBridge(%+v, %+v) = %v", x, y, i != j)
			}
		}
	}
}

// An empty list and nil are the same; what lies behind a list's length is not looked at.
func TestBridgesThatAreTheSame(t *testing.T) {
	empty := impl.Bridge{Ports: []impl.Pt{}, F: []impl.Fent{}, V: impl.Vtab{Rows: []impl.Vrow{}, Pvid: []int{}}}
	if !impl.SameBridge(impl.Bridge{}, empty) || !impl.SameBridge(empty, impl.Bridge{}) {
		t.Error("empty lists are not as nil")
	}
	b := yardOf(5, silent(), down())
	longer := copiedBridge(b)
	longer.Ports = append(longer.Ports, silent())[:2]
	longer.F = append(longer.F, impl.Fent{Tag: 99, Mac: 1})[:len(b.F)]
	longer.V.Rows = append(longer.V.Rows, impl.Vrow{Id: 99})[:2]
	longer.V.Pvid = append(longer.V.Pvid, 20)[:2]
	if !impl.SameBridge(b, longer) || !impl.SameBridge(longer, b) {
		t.Error("what lies behind the lists is looked at")
	}
	wrong := copiedBridge(b)
	wrong.Id, wrong.Vers, wrong.Ports[0].Cost = -1, math.MinInt, math.MaxInt
	if !impl.SameBridge(wrong, copiedBridge(wrong)) || impl.SameBridge(wrong, b) {
		t.Error("bridges that are not right are not held against each other")
	}
}

// rightPts are those of the small ports that are right, and one of each end.
func rightPts() []impl.Pt {
	all := slices.DeleteFunc(somePts(), func(p impl.Pt) bool { return !rightPt(p) })
	return append(all, impl.Pt{Up: true, Cost: 1000, Has: true, Heard: impl.Vec{Root: 1, Cost: 99000, Hops: 9, Bridge: 99, Port: 7}})
}

// All bridges of up to three of these ports, and all that can happen at them by few vectors.
func TestAllSmallBridges(t *testing.T) {
	all := rightPts()
	vecs := []impl.Vec{{Root: 1, Bridge: 1}, {Root: 1, Cost: 2, Hops: 1, Bridge: 2, Port: 1}, {Root: 2, Bridge: 1}, {Root: 3, Hops: 10, Bridge: 3}, {}}
	happens := func(b impl.Bridge) {
		ticks(t, b)
		for port := range b.Ports {
			links(t, b, port, true)
			links(t, b, port, false)
			for _, v := range vecs {
				hears(t, b, port, v)
			}
		}
	}
	for _, one := range all {
		for _, id := range []int{1, 2, 3, 99} {
			happens(yardOf(id, one))
		}
		for _, two := range all {
			for _, id := range []int{1, 2, 3} {
				happens(yardOf(id, one, two))
			}
			for i, three := range all {
				happens(yardOf(2+i%2, one, two, three))
			}
		}
	}
}

// Whatever happens, in any order, the bridge stays right, and nobody is left at ports that do not send.
func TestWhateverHappensToABridge(t *testing.T) {
	draw := uint64(11)
	next := func(below int) int {
		draw = draw*6364136223846793005 + 1442695040888963407
		return int(draw>>33) % below
	}
	for range 300 {
		ports := 1 + next(6)
		b := impl.BridgeNew(1+next(5), ports)
		for range 40 {
			was := b.Vers
			port := next(ports+2) - 1
			switch next(5) {
			case 0:
				b = links(t, b, port, next(4) > 0)
			case 1:
				b = hears(t, b, port, impl.Vec{Root: next(6), Cost: next(3), Hops: next(12), Bridge: 1 + next(5), Port: next(9)})
			case 2:
				b = ticks(t, b)
			case 3:
				b.F = impl.Learn(b.F, 1+next(3), 1+next(5), next(8))
			case 4:
				b.F, _ = impl.SetStatic(b.F, 1+next(3), 1+next(9), next(8))
			}
			if b.Vers < was || b.Vers > was+1 || !impl.BridgeOk(b) {
				t.Fatalf("Vers was %d: %+v", was, b)
			}
		}
	}
}

// Nothing is kept from one call to another.
func TestBridgesHangOnWhatTheyAreHandedAlone(t *testing.T) {
	b := yardOf(7, heardAt(impl.Vec{Root: 1, Cost: 10, Bridge: 3}), silent(), down())
	first := hears(t, b, 1, impl.Vec{Root: 1, Cost: 10, Bridge: 2})
	for range 3 {
		ticks(t, b)
		links(t, b, 0, false)
		hears(t, b, 1, impl.Vec{Root: 0})
		if x := hears(t, b, 1, impl.Vec{Root: 1, Cost: 10, Bridge: 2}); !impl.SameBridge(x, first) {
			t.Errorf("%+v; it was %+v", x, first)
		}
	}
}

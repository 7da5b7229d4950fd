package tests

import (
	"math"
	"slices"
	"testing"

	"loop.example/g00326/impl"
)

// copiedNet is n in other memory, without spare room.
func copiedNet(n impl.Net) impl.Net {
	n.Bridges = slices.Clone(n.Bridges)
	for i, b := range n.Bridges {
		n.Bridges[i] = copiedBridge(b)
	}
	n.Links, n.Said = slices.Clone(n.Links), slices.Clone(n.Said)
	return n
}

func sameNet(a impl.Net, b impl.Net) bool {
	return slices.EqualFunc(a.Bridges, b.Bridges, sameBridgeParts) && slices.Equal(a.Links, b.Links) && slices.Equal(a.Said, b.Said)
}

// wantBeside, rightNet and the models below say the document's words once more, plainly, part by part.
func wantBeside(n impl.Net, b int, p int) (int, int, bool) {
	for _, l := range n.Links {
		if l.A == b && l.P == p {
			return l.B, l.Q, true
		}
		if l.B == b && l.Q == p {
			return l.A, l.P, true
		}
	}
	return -1, -1, false
}

// portThere is a port of a bridge of a net, and whether there is one.
func portThere(n impl.Net, b int, p int) (impl.Pt, bool) {
	if b < 0 || b >= len(n.Bridges) || p < 0 || p >= len(n.Bridges[b].Ports) {
		return impl.Pt{}, false
	}
	return n.Bridges[b].Ports[p], true
}

func wantUp(n impl.Net, k int) bool {
	if k < 0 || k >= len(n.Links) {
		return false
	}
	a, aThere := portThere(n, n.Links[k].A, n.Links[k].P)
	b, bThere := portThere(n, n.Links[k].B, n.Links[k].Q)
	return aThere && bThere && a.Up && b.Up
}

func rightBridges(l []impl.Bridge) bool {
	ids := map[int]int{}
	for _, b := range l {
		if ids[b.Id]++; ids[b.Id] > 1 || !rightBridge(b) {
			return false
		}
	}
	return len(l) >= 1 && len(l) <= 6
}

func rightLinks(n impl.Net) bool {
	used := map[[2]int]int{}
	for _, l := range n.Links {
		a, aThere := portThere(n, l.A, l.P)
		b, bThere := portThere(n, l.B, l.Q)
		if !aThere || !bThere || l.A == l.B || a.Up != b.Up {
			return false
		}
		used[[2]int{l.A, l.P}]++
		used[[2]int{l.B, l.Q}]++
	}
	for _, count := range used {
		if count > 1 {
			return false
		}
	}
	return len(n.Links) <= 9
}

func rightNet(n impl.Net) bool {
	if !rightBridges(n.Bridges) || !rightLinks(n) || len(n.Said) > 40 {
		return false
	}
	for b := range n.Bridges {
		for p, port := range n.Bridges[b].Ports {
			if _, _, linked := wantBeside(n, b, p); port.Has && !linked {
				return false
			}
		}
	}
	for _, s := range n.Said {
		if s.Link < 0 || s.Link >= len(n.Links) || !rightVec(s.V) {
			return false
		}
	}
	return true
}

// raised is a bridge of which nothing happened but that each port came up.
func raised(id int, ports int) impl.Bridge {
	b := impl.Bridge{Id: id, Vers: ports}
	all := 1<<ports - 1
	b.V.Rows = []impl.Vrow{{Id: 1, Members: all, Bare: all}}
	for range ports {
		b.Ports = append(b.Ports, impl.Pt{Up: true, Cost: 1})
		b.V.Pvid = append(b.V.Pvid, 1)
	}
	return b
}

func wantNew(ids []int, ports int, l []impl.Link) impl.Net {
	if len(ids) > 6 || ports < 1 || ports > 6 {
		return impl.Net{}
	}
	n := impl.Net{Links: l}
	for _, id := range ids {
		n.Bridges = append(n.Bridges, raised(id, ports))
	}
	if !rightNet(n) {
		return impl.Net{}
	}
	return n
}

// inRoom is n with spare room behind all its lists, and what would be wrong in a net there.
func inRoom(n impl.Net) impl.Net {
	n = copiedNet(n)
	for i := range n.Bridges {
		b := &n.Bridges[i]
		b.Ports = append(b.Ports, heardAt(impl.Vec{Root: 1, Bridge: 1}), silent())[:len(b.Ports)]
		b.F = append(b.F, impl.Fent{Tag: 98, Mac: 7, Static: true}, impl.Fent{Tag: 99, Mac: 9999})[:len(b.F)]
		b.V.Rows = append(b.V.Rows, impl.Vrow{Id: 98}, impl.Vrow{Id: 99, Members: 1})[:len(b.V.Rows)]
		b.V.Pvid = append(b.V.Pvid, 1, 98)[:len(b.V.Pvid)]
	}
	n.Bridges = append(n.Bridges, impl.BridgeNew(97, 6), impl.Bridge{Id: 98})[:len(n.Bridges)]
	n.Links = append(n.Links, impl.Link{A: 7, P: 7, B: 8, Q: 8}, impl.Link{})[:len(n.Links)]
	n.Said = append(n.Said, impl.Say{Link: 9}, impl.Say{})[:len(n.Said)]
	return n
}

// allOf is n with its spare room.
func allOf(n impl.Net) impl.Net {
	n.Bridges = slices.Clone(n.Bridges[:cap(n.Bridges)])
	for i := range n.Bridges {
		b := &n.Bridges[i]
		b.Ports, b.F = b.Ports[:cap(b.Ports)], b.F[:cap(b.F)]
		b.V.Rows, b.V.Pvid = b.V.Rows[:cap(b.V.Rows)], b.V.Pvid[:cap(b.V.Pvid)]
	}
	n.Links, n.Said = n.Links[:cap(n.Links)], n.Said[:cap(n.Said)]
	return n
}

func strayPlaces() []int {
	return []int{-1, -2, 6, 7, 9, 10, 64, 1 << 32, math.MaxInt, math.MinInt}
}

// isNet wants NetOk, Beside and LinkUp to answer as their models do of n, at
// every place and around, and nothing of it written.
func isNet(t *testing.T, n impl.Net, want bool) {
	t.Helper()
	n = inRoom(n)
	kept := copiedNet(allOf(n))
	if got := impl.NetOk(n); got != want || rightNet(n) != want {
		t.Errorf("NetOk(%+v) = %v; want %v", n, got, want)
	}
	places := append(strayPlaces(), 0, 1, 2, 3, 4, 5)
	for _, b := range places {
		for _, p := range places {
			isBeside(t, n, b, p)
		}
	}
	for k := -1; k <= len(n.Links); k++ {
		isUp(t, n, k)
	}
	for _, k := range strayPlaces() {
		isUp(t, n, k)
	}
	if !sameNet(allOf(n), kept) {
		t.Fatalf("%+v was written: %+v", kept, allOf(n))
	}
}

func isBeside(t *testing.T, n impl.Net, b int, p int) {
	t.Helper()
	x, q, ok := impl.Beside(n, b, p)
	wantX, wantQ, wantOk := wantBeside(n, b, p)
	if x != wantX || q != wantQ || ok != wantOk {
		t.Errorf("Beside(%+v, %d, %d) = %d, %d, %v; want %d, %d, %v", n, b, p, x, q, ok, wantX, wantQ, wantOk)
	}
}

func isUp(t *testing.T, n impl.Net, k int) {
	t.Helper()
	if got := impl.LinkUp(n, k); got != wantUp(n, k) {
		t.Errorf("LinkUp(%+v, %d) = %v", n, k, got)
	}
}

// madeOf hands lists to NetNew with spare room behind them and without, and wants
// nothing written there, neither by the call nor by who writes over the answer.
func madeOf(t *testing.T, ids []int, ports int, l []impl.Link) impl.Net {
	t.Helper()
	idRoom := append(slices.Clone(ids), 97, 98)
	linkRoom := append(slices.Clone(l), impl.Link{A: 0, P: 0, B: 1, Q: 0}, impl.Link{A: 7, P: 7, B: 8, Q: 8})
	keptIds, keptLinks := slices.Clone(idRoom), slices.Clone(linkRoom)
	var answer impl.Net
	for _, spare := range []int{2, 0} {
		got := impl.NetNew(idRoom[:len(ids):len(ids)+spare], ports, linkRoom[:len(l):len(l)+spare])
		answer = copiedNet(got)
		ownLists(t, got)
		if !slices.Equal(idRoom, keptIds) || !slices.Equal(linkRoom, keptLinks) {
			t.Fatalf("%v, %v were written: %v, %v", keptIds, keptLinks, idRoom, linkRoom)
		}
	}
	return answer
}

// ownLists writes over the lists of a net, bridge by bridge, and wants none of the others to change by it.
func ownLists(t *testing.T, n impl.Net) {
	t.Helper()
	for i := range n.Bridges {
		kept := copiedNet(n)
		b := n.Bridges[i]
		overwrite(b.Ports, impl.Pt{Cost: -7})
		overwrite(b.F, impl.Fent{Mac: -7})
		overwrite(b.V.Rows, impl.Vrow{Id: -7})
		overwrite(b.V.Pvid, -7)
		kept.Bridges[i] = copiedBridge(b)
		if !sameNet(n, kept) {
			t.Fatalf("the bridge %d shares a list with another one: %+v", i, n)
		}
	}
	overwrite(n.Links, impl.Link{A: -7, P: -7, B: -7, Q: -7})
	overwrite(n.Said, impl.Say{Link: -7})
	overwrite(n.Bridges, impl.Bridge{Id: -7})
}

// makes wants NetNew to make a net, and what is promised of it.
func makes(t *testing.T, ids []int, ports int, l ...impl.Link) impl.Net {
	t.Helper()
	n := madeOf(t, ids, ports, l)
	if want := wantNew(ids, ports, l); !sameNet(n, want) || len(n.Bridges) != len(ids) {
		t.Fatalf("NetNew(%v, %d, %v) = %+v; want %+v", ids, ports, l, n, want)
	}
	isNet(t, n, true)
	for i, b := range n.Bridges {
		if b.Id != ids[i] || len(b.Ports) != ports || b.Vers != ports || !impl.BridgeOk(b) {
			t.Errorf("the bridge %d of %v with %d ports: %+v", i, ids, ports, b)
		}
		for p, port := range b.Ports {
			if port != (impl.Pt{Up: true, Cost: 1}) {
				t.Errorf("the port %d of the bridge %d is new: %+v", p, i, port)
			}
		}
	}
	for k, x := range l {
		if !impl.LinkUp(n, k) {
			t.Errorf("the link %d of %v is not up", k, l)
		}
		besides(t, n, x.A, x.P, x.B, x.Q)
		besides(t, n, x.B, x.Q, x.A, x.P)
	}
	return n
}

// besides wants one end of a link to stand beside the other one.
func besides(t *testing.T, n impl.Net, b int, p int, x int, q int) {
	t.Helper()
	if gotX, gotQ, ok := impl.Beside(n, b, p); gotX != x || gotQ != q || !ok {
		t.Errorf("Beside(%v, %d, %d) = %d, %d, %v; want %d, %d", n.Links, b, p, gotX, gotQ, ok, x, q)
	}
}

// alone wants nobody beside a port.
func alone(t *testing.T, n impl.Net, b int, p int) {
	t.Helper()
	if x, q, ok := impl.Beside(n, b, p); x != -1 || q != -1 || ok {
		t.Errorf("Beside(%v, %d, %d) = %d, %d, %v", n.Links, b, p, x, q, ok)
	}
}

// makesNone wants NetNew to answer the zero Net.
func makesNone(t *testing.T, ids []int, ports int, l ...impl.Link) {
	t.Helper()
	n := madeOf(t, ids, ports, l)
	if len(n.Bridges) != 0 || len(n.Links) != 0 || len(n.Said) != 0 || impl.NetOk(n) {
		t.Errorf("NetNew(%v, %d, %v) = %+v", ids, ports, l, n)
	}
	if want := wantNew(ids, ports, l); !sameNet(want, impl.Net{}) {
		t.Errorf("the model makes %+v of %v, %d, %v", want, ids, ports, l)
	}
}

// ring3 is three bridges in a ring, of three ports; the last port of each is free.
func ring3() impl.Net {
	return impl.NetNew([]int{3, 1, 2}, 3, []impl.Link{{A: 0, P: 0, B: 1, Q: 0}, {A: 1, P: 1, B: 2, Q: 1}, {A: 2, P: 0, B: 0, Q: 1}})
}

// nineLinks join each of the first three of six bridges with each of the last three.
func nineLinks() []impl.Link {
	var l []impl.Link
	for a := range 3 {
		for b := range 3 {
			l = append(l, impl.Link{A: a, P: b, B: 3 + b, Q: a})
		}
	}
	return l
}

func someVec() impl.Vec { return impl.Vec{Root: 1, Cost: 3, Hops: 2, Bridge: 4, Port: 1} }

// says are so many of them, on the link 0, there and back.
func says(count int) []impl.Say {
	var l []impl.Say
	for i := range count {
		l = append(l, impl.Say{Back: i%2 == 1, V: impl.Vec{Root: 1, Cost: i, Bridge: 1 + i%99}})
	}
	return l
}

func TestNetConstants(t *testing.T) {
	if impl.MaxBridges != 6 {
		t.Errorf("MaxBridges = %d", impl.MaxBridges)
	}
}

func TestOneBridgeWithoutALink(t *testing.T) {
	for ports := 1; ports <= 6; ports++ {
		for _, id := range []int{1, 50, 99} {
			n := makes(t, []int{id}, ports)
			for p := -1; p <= 6; p++ {
				alone(t, n, 0, p)
				alone(t, n, 1, p)
				alone(t, n, -1, p)
			}
			if impl.LinkUp(n, 0) || impl.LinkUp(n, -1) {
				t.Errorf("a link is up: %+v", n)
			}
		}
	}
}

func TestTwoBridgesAndALink(t *testing.T) {
	for p := range 3 {
		for q := range 3 {
			n := makes(t, []int{7, 4}, 3, impl.Link{A: 0, P: p, B: 1, Q: q})
			back := makes(t, []int{7, 4}, 3, impl.Link{A: 1, P: q, B: 0, Q: p})
			for _, x := range []impl.Net{n, back} {
				besides(t, x, 0, p, 1, q)
				besides(t, x, 1, q, 0, p)
				for port := range 3 {
					if port != p {
						alone(t, x, 0, port)
					}
					if port != q {
						alone(t, x, 1, port)
					}
				}
				alone(t, x, 2, q)
				alone(t, x, -1, p)
				if !impl.LinkUp(x, 0) || impl.LinkUp(x, 1) || impl.LinkUp(x, -1) {
					t.Errorf("the one link is not up, or another one is: %+v", x)
				}
			}
		}
	}
}

func TestARing(t *testing.T) {
	n := makes(t, []int{3, 1, 2}, 3, impl.Link{A: 0, P: 0, B: 1, Q: 0}, impl.Link{A: 1, P: 1, B: 2, Q: 1}, impl.Link{A: 2, P: 0, B: 0, Q: 1})
	besides(t, n, 0, 0, 1, 0)
	besides(t, n, 1, 0, 0, 0)
	besides(t, n, 1, 1, 2, 1)
	besides(t, n, 2, 1, 1, 1)
	besides(t, n, 2, 0, 0, 1)
	besides(t, n, 0, 1, 2, 0)
	for b := range 3 {
		alone(t, n, b, 2)
		alone(t, n, b, 3)
		alone(t, n, b, -1)
	}
	alone(t, n, 3, 0)
	for k, want := range map[int]bool{-1: false, 0: true, 1: true, 2: true, 3: false} {
		if impl.LinkUp(n, k) != want {
			t.Errorf("LinkUp(%d) = %v", k, !want)
		}
	}
}

// Two bridges may have several links between them, as long as each has ports of its own.
func TestLinksBetweenTheSameTwo(t *testing.T) {
	var l []impl.Link
	for p := range 6 {
		l = append(l, impl.Link{A: 0, P: p, B: 1, Q: 5 - p})
		makes(t, []int{2, 1}, 6, l...)
	}
	l[3] = impl.Link{A: 1, P: 2, B: 0, Q: 3}
	makes(t, []int{2, 1}, 6, l...)
}

func TestALinkBetweenAnyTwoOfSeveral(t *testing.T) {
	ids := []int{60, 50, 40, 30, 20, 10}
	for count := 2; count <= 6; count++ {
		for a := range count {
			for b := range count {
				l := impl.Link{A: a, P: b % 2, B: b, Q: a % 2}
				if a == b {
					makesNone(t, ids[:count], 2, l)
					continue
				}
				n := makes(t, ids[:count], 2, l)
				for other := range count {
					for p := range 2 {
						if (other != a || p != l.P) && (other != b || p != l.Q) {
							alone(t, n, other, p)
						}
					}
				}
			}
		}
	}
}

func TestHowManyBridges(t *testing.T) {
	ids := []int{99, 1, 50, 2, 98, 7, 8, 9}
	for count := 1; count <= 6; count++ {
		makes(t, ids[:count], 1)
		makes(t, ids[:count], 6)
	}
	makesNone(t, nil, 3)
	makesNone(t, []int{}, 3)
	makesNone(t, ids[:7], 3)
	makesNone(t, ids, 3)
	many := make([]int, 1<<20)
	for i := range many {
		many[i] = 1 + i%99
	}
	makesNone(t, many, 6)
	n := makes(t, ids[:6], 3)
	n.Bridges = append(n.Bridges, impl.BridgeNew(8, 3))
	isNet(t, n, false)
	n.Bridges = nil
	isNet(t, n, false)
	isNet(t, impl.Net{}, false)
	isNet(t, impl.Net{Bridges: []impl.Bridge{}, Links: []impl.Link{}, Said: []impl.Say{}}, false)
}

func TestHowManyPorts(t *testing.T) {
	for ports := 1; ports <= 6; ports++ {
		makes(t, []int{5, 6}, ports, impl.Link{A: 0, P: ports - 1, B: 1, Q: 0})
		makesNone(t, []int{5, 6}, ports, impl.Link{A: 0, P: ports, B: 1, Q: 0})
		makesNone(t, []int{5, 6}, ports, impl.Link{A: 0, P: 0, B: 1, Q: ports})
	}
	for _, ports := range []int{0, -1, -6, 7, 8, 64, 1<<32 + 1, math.MaxInt, math.MinInt} {
		makesNone(t, []int{5}, ports)
		makesNone(t, []int{5, 6}, ports, impl.Link{A: 0, P: 0, B: 1, Q: 0})
	}
}

// Bridges of a net need not have as many ports as each other.
func TestBridgesOfUnlikePorts(t *testing.T) {
	n := impl.Net{Bridges: []impl.Bridge{impl.BridgeNew(5, 1), impl.BridgeNew(6, 6)}}
	for q := -1; q <= 6; q++ {
		n.Links = []impl.Link{{A: 0, P: 0, B: 1, Q: q}}
		isNet(t, n, q >= 0 && q <= 5)
		n.Links = []impl.Link{{A: 1, P: q, B: 0, Q: 0}}
		isNet(t, n, q >= 0 && q <= 5)
		n.Links = []impl.Link{{A: 0, P: q, B: 1, Q: 5}}
		isNet(t, n, q == 0)
		n.Links = []impl.Link{{A: 1, P: 5, B: 0, Q: q}}
		isNet(t, n, q == 0)
	}
}

func TestIdsOfNets(t *testing.T) {
	makes(t, []int{1, 99, 2, 98}, 2)
	for _, id := range []int{0, -1, -99, 100, 101, 1<<32 + 1, math.MaxInt, math.MinInt} {
		makesNone(t, []int{id}, 3)
		makesNone(t, []int{id, 1, 2}, 3)
		makesNone(t, []int{1, id, 2}, 3)
		makesNone(t, []int{1, 2, id}, 3)
	}
	makesNone(t, []int{0, 100}, 3)
}

// No two of one Id, wherever they stand, and whatever else of them is unlike.
func TestTwoBridgesOfOneId(t *testing.T) {
	for i := range 6 {
		for j := range 6 {
			ids := []int{10, 20, 30, 40, 50, 60}
			ids[i] = ids[j]
			if i == j {
				makes(t, ids, 2)
			} else {
				makesNone(t, ids, 2)
			}
		}
	}
	makesNone(t, []int{1, 1}, 1)
	n := impl.Net{Bridges: []impl.Bridge{yardOf(4, silent(), down()), impl.BridgeNew(4, 1)}}
	isNet(t, n, false)
	n.Bridges[1].Id = 5
	isNet(t, n, true)
	n.Bridges[1].Name = n.Bridges[0].Name
	isNet(t, n, true)
}

func TestHowManyLinks(t *testing.T) {
	ids := []int{1, 2, 3, 4, 5, 6}
	all := append(nineLinks(), impl.Link{A: 0, P: 3, B: 1, Q: 3}, impl.Link{A: 2, P: 3, B: 3, Q: 3})
	for count := range 10 {
		n := makes(t, ids, 4, all[:count]...)
		if impl.LinkUp(n, count) || count > 0 && !impl.LinkUp(n, count-1) {
			t.Errorf("of %d links: %+v", count, n)
		}
	}
	makes(t, ids, 3, all[:9]...)
	makesNone(t, ids, 4, all[:10]...)
	makesNone(t, ids, 4, all...)
	n := makes(t, ids, 4, all[:9]...)
	n.Links = append(n.Links, all[9])
	isNet(t, n, false)
	if !impl.LinkUp(n, 9) {
		t.Error("the link beyond the ninth is there, and up")
	}
	makesNone(t, ids, 4, slices.Repeat(all[:1], 1000)...)
}

func TestAPortInTwoLinks(t *testing.T) {
	ids := []int{3, 1, 2}
	first := impl.Link{A: 0, P: 0, B: 1, Q: 0}
	for _, second := range []impl.Link{first, {A: 1, P: 0, B: 0, Q: 0}, {A: 0, P: 0, B: 1, Q: 1}, {A: 0, P: 0, B: 2, Q: 0}, {A: 2, P: 0, B: 0, Q: 0}, {A: 1, P: 0, B: 2, Q: 0}, {A: 2, P: 0, B: 1, Q: 0}, {A: 0, P: 1, B: 1, Q: 0}} {
		makesNone(t, ids, 2, first, second)
		makesNone(t, ids, 2, second, first)
		makesNone(t, ids, 2, first, impl.Link{A: 0, P: 1, B: 2, Q: 1}, second)
	}
	// Another bridge's port of the same number is another port.
	makes(t, ids, 2, first, impl.Link{A: 2, P: 0, B: 1, Q: 1})
	makes(t, ids, 2, first, impl.Link{A: 0, P: 1, B: 1, Q: 1})
	// Each two of nine links, of which the second has an end of the first one.
	for i := range 9 {
		for j := range 9 {
			if i == j {
				continue
			}
			l := nineLinks()
			l[j].A, l[j].P = l[i].A, l[i].P
			makesNone(t, []int{1, 2, 3, 4, 5, 6}, 3, l...)
			l = nineLinks()
			l[j].B, l[j].Q = l[i].B, l[i].Q
			makesNone(t, []int{1, 2, 3, 4, 5, 6}, 3, l...)
		}
	}
}

func TestALinkOfABridgeWithItself(t *testing.T) {
	for b := range 2 {
		for p := range 3 {
			for q := range 3 {
				makesNone(t, []int{1, 2}, 3, impl.Link{A: b, P: p, B: b, Q: q})
				makesNone(t, []int{1, 2}, 4, impl.Link{A: 0, P: 3, B: 1, Q: 3}, impl.Link{A: b, P: p, B: b, Q: q})
			}
		}
	}
	makesNone(t, []int{1}, 2, impl.Link{A: 0, P: 0, B: 0, Q: 1})
	makesNone(t, []int{1}, 1, impl.Link{})
}

func TestLinksThatLeadNowhere(t *testing.T) {
	right := impl.Link{A: 0, P: 0, B: 1, Q: 1}
	makes(t, []int{1, 2}, 2, right)
	for _, stray := range []int{-1, -2, 2, 3, 6, 64, 1 << 32, math.MaxInt, math.MinInt} {
		for _, set := range []func(l *impl.Link){
			func(l *impl.Link) { l.A = stray },
			func(l *impl.Link) { l.P = stray },
			func(l *impl.Link) { l.B = stray },
			func(l *impl.Link) { l.Q = stray },
		} {
			l := right
			set(&l)
			makesNone(t, []int{1, 2}, 2, l)
			makesNone(t, []int{1, 2}, 2, impl.Link{A: 0, P: 1, B: 1, Q: 0}, l)
			n := makes(t, []int{1, 2}, 2, right)
			n.Links[0] = l
			isNet(t, n, false)
			if impl.LinkUp(n, 0) {
				t.Errorf("a link that leads nowhere is up: %+v", l)
			}
		}
	}
	makesNone(t, []int{1}, 2, impl.Link{A: 0, P: 0, B: 1, Q: 0})
	makesNone(t, []int{1}, 2, impl.Link{A: 1, P: 0, B: 0, Q: 0})
}

// A link is up at both ends or at none: each way of its two ends, at each link of a ring.
func TestLinksUpAtBothEndsOrAtNone(t *testing.T) {
	for k, l := range ring3().Links {
		for _, a := range []bool{false, true} {
			for _, b := range []bool{false, true} {
				n := ring3()
				n.Bridges[l.A].Ports[l.P].Up = a
				n.Bridges[l.B].Ports[l.Q].Up = b
				isNet(t, n, a == b)
				for other := range 3 {
					if want := other != k || a && b; impl.LinkUp(n, other) != want {
						t.Errorf("LinkUp(%+v, %d) = %v", n, other, !want)
					}
				}
				besides(t, n, l.A, l.P, l.B, l.Q)
				besides(t, n, l.B, l.Q, l.A, l.P)
			}
		}
	}
}

func TestLinksThatAreSet(t *testing.T) {
	n := ring3()
	for _, l := range n.Links {
		n.Bridges[l.A] = impl.LinkSet(n.Bridges[l.A], l.P, false)
		isNet(t, n, false)
		n.Bridges[l.B] = impl.LinkSet(n.Bridges[l.B], l.Q, false)
		isNet(t, n, true)
	}
	for k := range n.Links {
		if impl.LinkUp(n, k) {
			t.Errorf("the link %d is up: %+v", k, n)
		}
	}
	for _, l := range n.Links {
		n.Bridges[l.B] = impl.LinkSet(n.Bridges[l.B], l.Q, true)
		isNet(t, n, false)
		n.Bridges[l.A] = impl.LinkSet(n.Bridges[l.A], l.P, true)
		isNet(t, n, true)
	}
}

// Ports without a link may be up or down as they like.
func TestPortsWithoutLinks(t *testing.T) {
	for ups := range 8 {
		n := ring3()
		for b := range n.Bridges {
			n.Bridges[b].Ports[2].Up = hasBit(ups, b)
		}
		isNet(t, n, true)
		for b := range n.Bridges {
			alone(t, n, b, 2)
		}
	}
	n := impl.Net{Bridges: []impl.Bridge{impl.BridgeNew(5, 6), impl.BridgeNew(6, 6)}}
	isNet(t, n, true)
	n.Bridges[1] = impl.LinkSet(n.Bridges[1], 4, true)
	isNet(t, n, true)
}

// What is heard comes by a link: at any other port a vector is from nobody.
func TestVectorsHeardWithoutALink(t *testing.T) {
	for b := range 3 {
		for p := range 3 {
			n := ring3()
			n.Bridges[b] = impl.HearVec(n.Bridges[b], p, someVec())
			isNet(t, n, p < 2)
			n.Bridges[b] = impl.LinkSet(n.Bridges[b], p, true)
			isNet(t, n, true)
		}
	}
	for b := range 6 {
		for p := range 6 {
			n := impl.NetNew([]int{1, 2, 3, 4, 5, 6}, 6, nineLinks())
			n.Bridges[b] = impl.HearVec(n.Bridges[b], p, someVec())
			isNet(t, n, p < 3)
		}
	}
	n := impl.NetNew([]int{1}, 1, nil)
	n.Bridges[0] = impl.HearVec(n.Bridges[0], 0, someVec())
	isNet(t, n, false)
	// The link of another bridge, at a port of the same number, does not help.
	n = impl.NetNew([]int{1, 2, 3}, 1, []impl.Link{{A: 0, P: 0, B: 1, Q: 0}})
	for b := range 3 {
		x := copiedNet(n)
		x.Bridges[b] = impl.HearVec(x.Bridges[b], 0, someVec())
		isNet(t, x, b < 2)
	}
}

// Any vector may have been heard by a link, also one that nobody of the net says.
func TestVectorsHeardByLinks(t *testing.T) {
	for _, v := range []impl.Vec{someVec(), {Root: 1, Bridge: 1}, {Root: 99, Cost: 100000, Hops: 10, Bridge: 99, Port: 7}, {Root: 50, Bridge: 3}} {
		n := ring3()
		for _, l := range n.Links {
			n.Bridges[l.A] = impl.HearVec(n.Bridges[l.A], l.P, v)
			isNet(t, n, true)
			n.Bridges[l.B] = impl.HearVec(n.Bridges[l.B], l.Q, v)
			isNet(t, n, true)
		}
	}
	// A link that is down at both ends has nothing that was heard: PtOk wants the port up.
	n := ring3()
	for _, p := range []*impl.Pt{&n.Bridges[0].Ports[0], &n.Bridges[1].Ports[0]} {
		*p = impl.Pt{Cost: 1, Has: true, Heard: someVec()}
	}
	isNet(t, n, false)
}

func TestHowManySays(t *testing.T) {
	n := ring3()
	for _, count := range []int{0, 1, 2, 39, 40} {
		n.Said = says(count)
		isNet(t, n, true)
	}
	for _, count := range []int{41, 42, 80, 1000} {
		n.Said = says(count)
		isNet(t, n, false)
	}
	// All alike are as many as they are.
	n.Said = slices.Repeat(says(1), 40)
	isNet(t, n, true)
	n.Said = slices.Repeat(says(1), 41)
	isNet(t, n, false)
}

func TestLinksOfSays(t *testing.T) {
	for _, back := range []bool{false, true} {
		n := ring3()
		for k := range 3 {
			n.Said = []impl.Say{{Link: k, Back: back, V: someVec()}}
			isNet(t, n, true)
		}
		for _, k := range []int{-1, -2, -3, 3, 4, 9, 1 << 32, math.MaxInt, math.MinInt} {
			stray := impl.Say{Link: k, Back: back, V: someVec()}
			n.Said = []impl.Say{stray}
			isNet(t, n, false)
			for place := range 4 {
				n.Said = slices.Insert([]impl.Say{{Link: 0, V: someVec()}, {Link: 1, V: someVec()}, {Link: 2, V: someVec()}}, place, stray)
				isNet(t, n, false)
			}
			n.Said = append(says(39), stray)
			isNet(t, n, false)
		}
		n = impl.NetNew([]int{1, 2}, 2, nil)
		n.Said = []impl.Say{{Link: 0, Back: back, V: someVec()}}
		isNet(t, n, false)
	}
}

// A Say may be on its way by a link that is down.
func TestSaysOnALinkThatIsDown(t *testing.T) {
	n := ring3()
	n.Bridges[0] = impl.LinkSet(n.Bridges[0], 0, false)
	n.Bridges[1] = impl.LinkSet(n.Bridges[1], 0, false)
	n.Said = says(40)
	isNet(t, n, true)
}

func TestVectorsOfSays(t *testing.T) {
	for _, field := range vecFields() {
		for at, want := range map[int]bool{field.least: true, field.most: true, field.least - 1: false, field.most + 1: false, math.MaxInt: false, math.MinInt: false} {
			v := someVec()
			field.set(&v, at)
			n := ring3()
			n.Said = []impl.Say{{Link: 2, V: v}}
			isNet(t, n, want)
			n.Said = []impl.Say{{V: someVec()}, {Link: 1, Back: true, V: v}, {Link: 2, V: someVec()}}
			isNet(t, n, want)
			n.Said = append(says(39), impl.Say{Link: 2, Back: true, V: v})
			isNet(t, n, want)
		}
	}
	n := ring3()
	n.Said = []impl.Say{{}}
	isNet(t, n, false)
}

// Each bridge must be right, wherever it stands; whatever else is right of it does not hinder.
func TestBridgesOfNets(t *testing.T) {
	right := yardOf(5, silent(), down(), silent())
	right.F, right.V = fullFdb(), tensVtab(3, 6)
	wrong := []impl.Bridge{{}, {Id: 9}}
	for _, spoil := range []func(b *impl.Bridge){
		func(b *impl.Bridge) { b.Id = 0 },
		func(b *impl.Bridge) { b.Id = 100 },
		func(b *impl.Bridge) { b.Name = "eleven-byte" },
		func(b *impl.Bridge) { b.Ports = nil },
		func(b *impl.Bridge) { b.Ports[0].Cost = 0 },
		func(b *impl.Bridge) { b.Ports[2].Cost = 1001 },
		func(b *impl.Bridge) { b.Ports[1].Heard.Root = 1 },
		func(b *impl.Bridge) { b.F[11].Age = 5 },
		func(b *impl.Bridge) { b.F = append(b.F, impl.Fent{Tag: 99, Mac: 1}) },
		func(b *impl.Bridge) { b.V.Pvid = b.V.Pvid[:2] },
		func(b *impl.Bridge) { b.V.Pvid[0] = 99 },
		func(b *impl.Bridge) { b.V.Rows[0].Members = 8 },
	} {
		b := copiedBridge(right)
		spoil(&b)
		wrong = append(wrong, b)
	}
	for _, count := range bridgeCounts() {
		for _, n := range []int{-1, 1000001} {
			b := copiedBridge(right)
			*count.of(&b) = n
			wrong = append(wrong, b)
		}
	}
	for place := range 6 {
		n := impl.NetNew([]int{1, 2, 3, 4, 6, 7}, 1, nil)
		n.Bridges[place] = right
		isNet(t, n, true)
		for _, b := range wrong {
			n.Bridges[place] = b
			isNet(t, n, false)
		}
	}
}

// Beside and LinkUp are asked of nets that are not right, too: by the links that are there, the first of several.
func TestAskedOfWhatIsNoNet(t *testing.T) {
	n := impl.Net{Links: []impl.Link{{A: 0, P: 0, B: 1, Q: 0}, {A: 2, P: 1, B: 0, Q: 0}, {A: -3, P: -4, B: 9, Q: 70}, {A: 5, P: 5, B: 5, Q: 5}, {A: 4, P: 1, B: 4, Q: 2}}}
	isNet(t, n, false)
	besides(t, n, 0, 0, 1, 0)
	besides(t, n, 1, 0, 0, 0)
	besides(t, n, 2, 1, 0, 0)
	besides(t, n, -3, -4, 9, 70)
	besides(t, n, 9, 70, -3, -4)
	besides(t, n, 5, 5, 5, 5)
	besides(t, n, 4, 1, 4, 2)
	besides(t, n, 4, 2, 4, 1)
	for k := range n.Links {
		if impl.LinkUp(n, k) {
			t.Errorf("the link %d is up without bridges", k)
		}
	}
	// Two bridges of one Id, a port that is up and down in two links.
	n.Bridges = []impl.Bridge{yardOf(4, silent()), yardOf(4, silent()), yardOf(0, down(), down())}
	isNet(t, n, false)
	if !impl.LinkUp(n, 0) || impl.LinkUp(n, 1) {
		t.Errorf("the first link alone is up: %+v", n)
	}
}

func TestNewNetsAreNewEachTime(t *testing.T) {
	ownLists(t, ring3())
	if n := ring3(); !impl.NetOk(n) || len(n.Links) != 3 || n.Links[2] != (impl.Link{A: 2, P: 0, B: 0, Q: 1}) {
		t.Errorf("behind one that was written over: %+v", n)
	}
}

// smallLinks are all links of places and ports -1 .. 2.
func smallLinks() []impl.Link {
	var l []impl.Link
	for i := range 256 {
		l = append(l, impl.Link{A: i%4 - 1, P: i/4%4 - 1, B: i/16%4 - 1, Q: i/64 - 1})
	}
	return l
}

// All pairs of small links, of two bridges of two ports: just those are made that the model makes.
func TestAllPairsOfSmallLinks(t *testing.T) {
	ids := []int{2, 1}
	made := 0
	for _, a := range smallLinks() {
		for _, b := range smallLinks() {
			l := []impl.Link{a, b}
			n := impl.NetNew(ids, 2, l)
			if want := wantNew(ids, 2, l); !sameNet(n, want) || impl.NetOk(n) != (len(want.Bridges) == 2) {
				t.Fatalf("NetNew(%v, 2, %v) = %+v; want %+v", ids, l, n, want)
			}
			if len(n.Bridges) > 0 {
				made++
			}
		}
	}
	// Two ways to join the four ports in pairs, each link there or back, in either order.
	if made != 16 {
		t.Errorf("%d nets are made", made)
	}
}

// All ways of the four ports of two bridges, with no link, one, and two.
func TestAllWaysOfFourPorts(t *testing.T) {
	pts := []impl.Pt{down(), silent(), heardAt(someVec()), {Cost: 1, Has: true, Heard: someVec()}, {Up: true, Cost: 1, Heard: someVec()}}
	all := [][]impl.Link{nil, {{A: 0, P: 0, B: 1, Q: 1}}, {{A: 1, P: 0, B: 0, Q: 0}}, {{A: 0, P: 1, B: 1, Q: 0}, {A: 1, P: 1, B: 0, Q: 0}}}
	for i := range 625 {
		n := impl.NetNew([]int{8, 3}, 2, nil)
		n.Bridges[0].Ports = []impl.Pt{pts[i%5], pts[i/5%5]}
		n.Bridges[1].Ports = []impl.Pt{pts[i/25%5], pts[i/125]}
		for _, l := range all {
			n.Links = l
			if got := impl.NetOk(n); got != rightNet(n) {
				t.Fatalf("NetOk(%+v) = %v", n, got)
			}
			for k := -1; k <= len(l); k++ {
				isUp(t, n, k)
			}
		}
	}
}

// Many nets by a fixed rule, of which most are nearly right.
func TestNetsByAFixedRule(t *testing.T) {
	draw := uint64(13)
	next := func(count int) int {
		draw = draw*6364136223846793005 + 1442695040888963407
		return int(draw>>33) % count
	}
	right := 0
	for range 4000 {
		ids := []int{}
		for range 1 + next(6) {
			ids = append(ids, 1+next(40))
		}
		ports := 1 + next(6)
		var l []impl.Link
		for range next(4) {
			l = append(l, impl.Link{A: next(len(ids)), P: next(ports), B: next(len(ids)), Q: next(ports)})
		}
		n := madeOf(t, ids, ports, l)
		if want := wantNew(ids, ports, l); !sameNet(n, want) {
			t.Fatalf("NetNew(%v, %d, %v) = %+v; want %+v", ids, ports, l, n, want)
		}
		if len(n.Bridges) == 0 {
			continue
		}
		for range next(4) {
			b, p := next(len(ids)), next(ports)
			switch next(3) {
			case 0:
				n.Bridges[b] = impl.LinkSet(n.Bridges[b], p, false)
			case 1:
				n.Bridges[b] = impl.HearVec(n.Bridges[b], p, someVec())
			case 2:
				n.Said = append(n.Said, impl.Say{Link: next(len(l) + 1), Back: p == 0, V: impl.Vec{Root: 1 + b, Bridge: 1 + b, Port: p}})
			}
		}
		isNet(t, n, rightNet(n))
		if rightNet(n) {
			right++
		}
	}
	if right < 300 || right > 2000 {
		t.Errorf("%d nets are right", right)
	}
}

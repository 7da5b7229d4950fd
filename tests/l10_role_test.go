package tests

import (
	"math"
	"slices"
	"testing"

	"loop.example/g00326/impl"
)

// rightVec and the models below say the document's words once more, plainly, port by port.
func rightVec(v impl.Vec) bool {
	return v.Root >= 1 && v.Root <= 99 && v.Cost >= 0 && v.Cost <= 100000 && v.Hops >= 0 && v.Hops <= 10 && v.Bridge >= 1 && v.Bridge <= 99 && v.Port >= 0 && v.Port <= 7
}

func rightPt(p impl.Pt) bool {
	if p.Cost < 1 || p.Cost > 1000 {
		return false
	}
	if p.Has {
		return p.Up && rightVec(p.Heard)
	}
	return p.Heard == impl.Vec{}
}

// counts tells what comes in at a port, and whether it is one of those of which the best is taken.
func counts(id int, p impl.Pt) (impl.Vec, bool) {
	v := p.Heard
	if !p.Up || !p.Has || !rightVec(v) || p.Cost < 1 || p.Cost > 1000 || v.Cost+p.Cost > 100000 || v.Hops == 10 || v.Root >= id {
		return impl.Vec{}, false
	}
	v.Cost += p.Cost
	v.Hops++
	return v, true
}

// wantBest takes the port that no other one is ahead of.
func wantBest(id int, l []impl.Pt) (impl.Vec, int) {
	for port, p := range l {
		v, ok := counts(id, p)
		for other, q := range l {
			w, there := counts(id, q)
			ok = ok && !(there && (lessByRule(w, v) || other < port && !lessByRule(v, w)))
		}
		if ok {
			return impl.Vec{Root: v.Root, Cost: v.Cost, Hops: v.Hops, Bridge: id}, port
		}
	}
	return impl.Vec{Root: id, Bridge: id}, -1
}

func wantSay(id int, l []impl.Pt, port int) impl.Vec {
	v, _ := wantBest(id, l)
	return impl.Vec{Root: v.Root, Cost: v.Cost, Hops: v.Hops, Bridge: v.Bridge, Port: port}
}

func wantRole(id int, l []impl.Pt, port int) int {
	if port < 0 || port >= len(l) || !l[port].Up {
		return 4
	}
	if _, from := wantBest(id, l); port == from {
		return 1
	}
	if !l[port].Has || lessByRule(wantSay(id, l, port), l[port].Heard) {
		return 2
	}
	return 3
}

func wantSends(id int, l []impl.Pt) int {
	bits := 0
	for port, bit := range []int{1, 2, 4, 8, 16, 32} {
		if role := wantRole(id, l, port); role == 1 || role == 2 {
			bits += bit
		}
	}
	return bits
}

// portsAround are the ports of a list, and those that are none of them, at either side and far off.
func portsAround(l []impl.Pt) []int {
	ports := []int{math.MinInt, -64, -2, -1, len(l), len(l) + 1, 64, 1 << 32, math.MaxInt}
	for port := range l {
		ports = append(ports, port)
	}
	return ports
}

// rootPorts wants, whatever the ports are, one port for the root at most, and
// one just where the root is a lesser bridge.
func rootPorts(t *testing.T, id int, l []impl.Pt) {
	t.Helper()
	best, from := impl.BestVec(id, l)
	var found []int
	for _, port := range portsAround(l) {
		if impl.RoleOf(id, l, port) == impl.RoRoot && !slices.Contains(found, port) {
			found = append(found, port)
		}
	}
	if best.Root < id && !slices.Equal(found, []int{from}) || best.Root >= id && (len(found) > 0 || from != -1) {
		t.Errorf("%d of %+v: BestVec = %+v, %d; ports for the root: %v", id, l, best, from, found)
	}
}

// areRoles wants all that is asked of these ports to be answered as told, with
// spare room behind the list and without, and nothing written there.
func areRoles(t *testing.T, id int, l []impl.Pt) {
	t.Helper()
	room := append(slices.Clone(l), impl.Pt{Up: true, Cost: 1, Has: true, Heard: impl.Vec{Root: 1, Bridge: 1}}, impl.Pt{Up: true, Cost: 1})
	kept := slices.Clone(room)
	rootPorts(t, id, l)
	for _, handed := range [][]impl.Pt{room[:len(l)], room[:len(l):len(l)]} {
		want, wantFrom := wantBest(id, l)
		if v, from := impl.BestVec(id, handed); v != want || from != wantFrom {
			t.Errorf("BestVec(%d, %+v) = %+v, %d; want %+v, %d", id, l, v, from, want, wantFrom)
		}
		for _, port := range portsAround(l) {
			if v, want := impl.SayVec(id, handed, port), wantSay(id, l, port); v != want {
				t.Errorf("SayVec(%d, %+v, %d) = %+v; want %+v", id, l, port, v, want)
			}
			if role, want := impl.RoleOf(id, handed, port), wantRole(id, l, port); role != want {
				t.Errorf("RoleOf(%d, %+v, %d) = %d; want %d", id, l, port, role, want)
			}
		}
		if bits, want := impl.Sends(id, handed), wantSends(id, l); bits != want {
			t.Errorf("Sends(%d, %+v) = %b; want %b", id, l, bits, want)
		}
		if !slices.Equal(room, kept) {
			t.Fatalf("%+v was written: %+v", kept, room)
		}
	}
}

// rolesAre wants these roles of the ports, written out, and the bits that follow of them.
func rolesAre(t *testing.T, id int, l []impl.Pt, roles ...int) {
	t.Helper()
	bits := 0
	for port, want := range roles {
		if role := impl.RoleOf(id, l, port); role != want {
			t.Errorf("RoleOf(%d, %+v, %d) = %d; want %d", id, l, port, role, want)
		}
		if want == impl.RoRoot || want == impl.RoTold {
			bits |= 1 << port
		}
	}
	if len(l) != len(roles) || impl.Sends(id, l) != bits {
		t.Errorf("Sends(%d, %+v) = %b; want %b", id, l, impl.Sends(id, l), bits)
	}
	areRoles(t, id, l)
}

// bestIs wants this vector of these ports, written out, and the port that it came by.
func bestIs(t *testing.T, id int, l []impl.Pt, want impl.Vec, wantFrom int) {
	t.Helper()
	if v, from := impl.BestVec(id, l); v != want || from != wantFrom {
		t.Errorf("BestVec(%d, %+v) = %+v, %d; want %+v, %d", id, l, v, from, want, wantFrom)
	}
	areRoles(t, id, l)
}

// bestFrom wants the best to be of this port.
func bestFrom(t *testing.T, id int, l []impl.Pt, want int) {
	t.Helper()
	if v, from := impl.BestVec(id, l); from != want {
		t.Errorf("BestVec(%d, %+v) = %+v, %d; want it of %d", id, l, v, from, want)
	}
	areRoles(t, id, l)
}

// heardAt is a port that is up, of Cost 1, where v was heard.
func heardAt(v impl.Vec) impl.Pt {
	return impl.Pt{Up: true, Cost: 1, Has: true, Heard: v}
}

func silent() impl.Pt { return impl.Pt{Up: true, Cost: 1} }

func down() impl.Pt { return impl.Pt{Cost: 1} }

// withHeard are the ports with each of these heard, in this order.
func withHeard(all ...impl.Vec) []impl.Pt {
	var l []impl.Pt
	for _, v := range all {
		l = append(l, heardAt(v))
	}
	return l
}

func TestRoleConstants(t *testing.T) {
	if impl.RoRoot != 1 || impl.RoTold != 2 || impl.RoIdle != 3 || impl.RoDown != 4 {
		t.Errorf("RoRoot = %d, RoTold = %d, RoIdle = %d, RoDown = %d", impl.RoRoot, impl.RoTold, impl.RoIdle, impl.RoDown)
	}
}

// strayCosts are costs at their ends, and past them.
func strayCosts() []int {
	return []int{1, 2, 500, 999, 1000, 0, -1, -2, -1000, 1001, 1002, 1<<32 + 1, math.MaxInt, math.MaxInt - 1, math.MinInt, math.MinInt + 1}
}

func TestCostsOfPorts(t *testing.T) {
	v := impl.Vec{Root: 1, Cost: 300, Hops: 2, Bridge: 5, Port: 3}
	for _, cost := range strayCosts() {
		for _, p := range []impl.Pt{{Cost: cost}, {Up: true, Cost: cost}, {Up: true, Cost: cost, Has: true, Heard: v}} {
			if ok := impl.PtOk(p); ok != (cost >= 1 && cost <= 1000) {
				t.Errorf("PtOk(%+v) = %v", p, ok)
			}
		}
	}
}

func TestWhatIsHeardAtPorts(t *testing.T) {
	for _, field := range vecFields() {
		for _, n := range []int{field.least - 2, field.least - 1, field.least, field.least + 1, field.most - 1, field.most, field.most + 1, field.most + 2, -field.most, 1 << 32, math.MaxInt, math.MinInt} {
			v, alone := impl.Vec{Root: 3, Cost: 300, Hops: 4, Bridge: 5, Port: 6}, impl.Vec{}
			field.set(&v, n)
			field.set(&alone, n)
			if ok := impl.PtOk(heardAt(v)); ok != (n >= field.least && n <= field.most) {
				t.Errorf("%s %d: PtOk(%+v) = %v", field.name, n, heardAt(v), ok)
			}
			if p := heardAt(alone); impl.PtOk(p) {
				t.Errorf("PtOk(%+v) = true", p)
			}
			for _, up := range []bool{false, true} {
				if p := (impl.Pt{Up: up, Cost: 1, Heard: alone}); impl.PtOk(p) != (n == 0) {
					t.Errorf("PtOk(%+v) = %v", p, impl.PtOk(p))
				}
			}
		}
	}
}

// Every port of few values in each of its parts.
func TestPortsByTheirRule(t *testing.T) {
	vecs := []impl.Vec{{}, {Root: 1}, {Bridge: 1}, {Root: 1, Bridge: 1}, {Root: 99, Cost: 100000, Hops: 10, Bridge: 99, Port: 7}, {Root: 100, Bridge: 1}, {Cost: 1}}
	right := 0
	for _, cost := range strayCosts() {
		for _, v := range vecs {
			for bits := range 4 {
				p := impl.Pt{Up: bits&1 > 0, Cost: cost, Has: bits&2 > 0, Heard: v}
				if ok := impl.PtOk(p); ok != rightPt(p) {
					t.Errorf("PtOk(%+v) = %v", p, ok)
				}
				if rightPt(p) {
					right++
				}
			}
		}
	}
	// Of each of five costs: one down, one silent, two that heard.
	if right != 5*4 || impl.PtOk(impl.Pt{}) {
		t.Errorf("%d ports are right; PtOk of the zero one is %v", right, impl.PtOk(impl.Pt{}))
	}
}

func TestBridgesWithoutPorts(t *testing.T) {
	for _, id := range []int{1, 2, 50, 99} {
		for _, l := range [][]impl.Pt{nil, {}} {
			bestIs(t, id, l, impl.Vec{Root: id, Bridge: id}, -1)
			rolesAre(t, id, l)
			if v := impl.SayVec(id, l, 0); v != (impl.Vec{Root: id, Bridge: id}) {
				t.Errorf("SayVec(%d) = %+v", id, v)
			}
		}
	}
}

func TestPortsThatHeardNothing(t *testing.T) {
	for _, id := range []int{1, 2, 99} {
		bestIs(t, id, []impl.Pt{silent()}, impl.Vec{Root: id, Bridge: id}, -1)
		rolesAre(t, id, []impl.Pt{silent()}, impl.RoTold)
		rolesAre(t, id, []impl.Pt{down()}, impl.RoDown)
		rolesAre(t, id, []impl.Pt{silent(), down(), silent()}, impl.RoTold, impl.RoDown, impl.RoTold)
	}
}

func TestRootsThatAreHeard(t *testing.T) {
	for id := 1; id <= 99; id++ {
		for root := 1; root <= 99; root++ {
			l := withHeard(impl.Vec{Root: root, Cost: 7, Hops: 2, Bridge: 40, Port: 3})
			if root < id {
				bestIs(t, id, l, impl.Vec{Root: root, Cost: 8, Hops: 3, Bridge: id}, 0)
				rolesAre(t, id, l, impl.RoRoot)
			} else {
				bestIs(t, id, l, impl.Vec{Root: id, Bridge: id}, -1)
				rolesAre(t, id, l, impl.RoTold)
			}
		}
	}
}

// A root that is the bridge itself is no lesser one, however near it is said to be.
func TestOwnRootThatIsHeard(t *testing.T) {
	for _, v := range []impl.Vec{{Root: 5, Bridge: 5}, {Root: 5, Bridge: 1}, {Root: 5, Cost: 1, Hops: 1, Bridge: 9, Port: 7}} {
		l := withHeard(v)
		bestIs(t, 5, l, impl.Vec{Root: 5, Bridge: 5}, -1)
		bestIs(t, 6, l, impl.Vec{Root: 5, Cost: v.Cost + 1, Hops: v.Hops + 1, Bridge: 6}, 0)
		bestIs(t, 4, l, impl.Vec{Root: 4, Bridge: 4}, -1)
	}
	rolesAre(t, 5, withHeard(impl.Vec{Root: 5, Bridge: 1}), impl.RoIdle)
	rolesAre(t, 5, withHeard(impl.Vec{Root: 5, Cost: 1, Hops: 1, Bridge: 9, Port: 7}), impl.RoTold)
}

// The least is heard at each port of lists of each length, beside greater ones, and ones that are silent or down.
func TestPlaceOfTheLeast(t *testing.T) {
	least := impl.Vec{Root: 1, Cost: 4, Hops: 1, Bridge: 2, Port: 5}
	for _, other := range []impl.Pt{silent(), down(), heardAt(impl.Vec{Root: 1, Cost: 9, Hops: 1, Bridge: 2, Port: 5}), heardAt(impl.Vec{Root: 2, Bridge: 2}), heardAt(impl.Vec{Root: 9, Bridge: 9})} {
		for ports := 1; ports <= 8; ports++ {
			for at := range ports {
				l := slices.Repeat([]impl.Pt{other}, ports)
				l[at] = heardAt(least)
				bestIs(t, 7, l, impl.Vec{Root: 1, Cost: 5, Hops: 2, Bridge: 7}, at)
				for port := range ports {
					if role := impl.RoleOf(7, l, port); (role == impl.RoRoot) != (port == at) {
						t.Errorf("RoleOf(7, %+v, %d) = %d", l, port, role)
					}
				}
			}
		}
	}
}

// Each of these is less than all behind it: the root weighs more than how far
// it is, this more than who says so, and this more than by which port.
func TestOrderOfWhatIsHeard(t *testing.T) {
	rising := withHeard(
		impl.Vec{Root: 1, Cost: 0, Hops: 9, Bridge: 3, Port: 0},
		impl.Vec{Root: 1, Cost: 0, Hops: 8, Bridge: 3, Port: 7},
		impl.Vec{Root: 1, Cost: 0, Hops: 7, Bridge: 98, Port: 0},
		impl.Vec{Root: 1, Cost: 1, Hops: 6, Bridge: 1, Port: 0},
		impl.Vec{Root: 1, Cost: 99999, Hops: 5, Bridge: 1, Port: 0},
		impl.Vec{Root: 2, Cost: 0, Hops: 4, Bridge: 1, Port: 0},
		impl.Vec{Root: 98, Cost: 0, Hops: 3, Bridge: 1, Port: 0},
	)
	for one := range rising {
		for two := one + 1; two < len(rising); two++ {
			bestFrom(t, 99, []impl.Pt{rising[one], rising[two]}, 0)
			bestFrom(t, 99, []impl.Pt{rising[two], rising[one]}, 1)
		}
		back := slices.Clone(rising[one:])
		slices.Reverse(back)
		bestFrom(t, 99, rising[one:], 0)
		bestFrom(t, 99, back, len(back)-1)
	}
}

// How far the root is counts behind the link: what is nearer by itself may be further over its Cost.
func TestCostOfTheLinkCounts(t *testing.T) {
	near := impl.Pt{Up: true, Cost: 100, Has: true, Heard: impl.Vec{Root: 1, Cost: 10, Hops: 1, Bridge: 2}}
	far := impl.Pt{Up: true, Cost: 9, Has: true, Heard: impl.Vec{Root: 1, Cost: 100, Hops: 5, Bridge: 8, Port: 3}}
	for _, l := range [][]impl.Pt{{near, far}, {near, far, near, far}} {
		bestIs(t, 5, l, impl.Vec{Root: 1, Cost: 109, Hops: 6, Bridge: 5}, 1)
	}
	bestIs(t, 5, []impl.Pt{far, near}, impl.Vec{Root: 1, Cost: 109, Hops: 6, Bridge: 5}, 0)
	far.Cost = 10
	bestIs(t, 5, []impl.Pt{far, near}, impl.Vec{Root: 1, Cost: 110, Hops: 2, Bridge: 5}, 1)
	far.Cost = 11
	bestIs(t, 5, []impl.Pt{far, near}, impl.Vec{Root: 1, Cost: 110, Hops: 2, Bridge: 5}, 1)
}

func TestWhatABridgeSaysAtItsPorts(t *testing.T) {
	l := []impl.Pt{silent(), heardAt(impl.Vec{Root: 2, Cost: 30, Hops: 3, Bridge: 4, Port: 6}), down(), heardAt(impl.Vec{Root: 9, Bridge: 9})}
	for _, port := range []int{0, 1, 2, 3, 4, 5, 7, 8, 100, -1, -2, math.MaxInt, math.MinInt} {
		if v := impl.SayVec(8, l, port); v != (impl.Vec{Root: 2, Cost: 31, Hops: 4, Bridge: 8, Port: port}) {
			t.Errorf("SayVec(8, .., %d) = %+v", port, v)
		}
		if v := impl.SayVec(2, l, port); v != (impl.Vec{Root: 2, Bridge: 2, Port: port}) {
			t.Errorf("SayVec(2, .., %d) = %+v", port, v)
		}
	}
	areRoles(t, 8, l)
	areRoles(t, 2, l)
}

func TestTheFourRoles(t *testing.T) {
	l := []impl.Pt{
		heardAt(impl.Vec{Root: 1, Cost: 10, Hops: 1, Bridge: 3}),
		heardAt(impl.Vec{Root: 1, Cost: 10, Hops: 1, Bridge: 4}),
		silent(),
		down(),
		heardAt(impl.Vec{Root: 1, Cost: 11, Hops: 2, Bridge: 8, Port: 2}),
		heardAt(impl.Vec{Root: 1, Cost: 11, Hops: 2, Bridge: 6, Port: 2}),
	}
	rolesAre(t, 7, l, impl.RoRoot, impl.RoIdle, impl.RoTold, impl.RoDown, impl.RoTold, impl.RoIdle)
	if bits := impl.Sends(7, l); bits != 1+4+16 {
		t.Errorf("Sends = %d", bits)
	}
	rolesAre(t, 1, l, impl.RoTold, impl.RoTold, impl.RoTold, impl.RoDown, impl.RoTold, impl.RoTold)
}

// What is heard is just as good as what the bridge says there, or one less or more in each number.
func TestBetweenToldAndIdle(t *testing.T) {
	root := heardAt(impl.Vec{Root: 3, Cost: 10, Hops: 1, Bridge: 4})
	for port := range 6 {
		for _, field := range []struct {
			less, more impl.Vec
		}{
			{impl.Vec{Root: 3, Cost: 10, Hops: 9, Bridge: 99, Port: 7}, impl.Vec{Root: 3, Cost: 12, Bridge: 1}},
			{impl.Vec{Root: 3, Cost: 11, Hops: 9, Bridge: 6, Port: 7}, impl.Vec{Root: 3, Cost: 11, Bridge: 8}},
			{impl.Vec{Root: 3, Cost: 11, Hops: 9, Bridge: 7, Port: port}, impl.Vec{Root: 4, Bridge: 1}},
			{impl.Vec{Root: 3, Cost: 11, Hops: 0, Bridge: 7, Port: port}, impl.Vec{Root: 3, Cost: 11, Bridge: 7, Port: port + 1}},
			{impl.Vec{Root: 3, Cost: 11, Hops: 2, Bridge: 7, Port: max(port-1, 0)}, impl.Vec{Root: 99, Cost: 100000, Hops: 10, Bridge: 99, Port: 7}},
		} {
			l := append(slices.Repeat([]impl.Pt{down()}, port), silent(), root)
			l[port] = heardAt(field.less)
			if role := impl.RoleOf(7, l, port); role != impl.RoIdle {
				t.Errorf("RoleOf(7, %+v, %d) = %d; want RoIdle", l, port, role)
			}
			areRoles(t, 7, l)
			l[port] = heardAt(field.more)
			if role := impl.RoleOf(7, l, port); role != impl.RoTold {
				t.Errorf("RoleOf(7, %+v, %d) = %d; want RoTold", l, port, role)
			}
			areRoles(t, 7, l)
		}
	}
}

func TestCostsOfTheLinkAtTheirEnds(t *testing.T) {
	v := impl.Vec{Root: 1, Cost: 300, Hops: 2, Bridge: 5, Port: 3}
	for _, cost := range strayCosts() {
		l := []impl.Pt{{Up: true, Cost: cost, Has: true, Heard: v}}
		if cost >= 1 && cost <= 1000 {
			bestIs(t, 7, l, impl.Vec{Root: 1, Cost: 300 + cost, Hops: 3, Bridge: 7}, 0)
			rolesAre(t, 7, l, impl.RoRoot)
			continue
		}
		bestIs(t, 7, l, impl.Vec{Root: 7, Bridge: 7}, -1)
		rolesAre(t, 7, l, impl.RoIdle)
		bestFrom(t, 7, append(l, heardAt(impl.Vec{Root: 6, Bridge: 6})), 1)
		rolesAre(t, 7, []impl.Pt{{Up: true, Cost: cost}, {Cost: cost}}, impl.RoTold, impl.RoDown)
	}
}

func TestWhatIsTooFar(t *testing.T) {
	for _, cost := range []int{1, 2, 999, 1000} {
		l := []impl.Pt{{Up: true, Cost: cost, Has: true, Heard: impl.Vec{Root: 1, Cost: 100000 - cost, Hops: 9, Bridge: 2}}}
		bestIs(t, 7, l, impl.Vec{Root: 1, Cost: 100000, Hops: 10, Bridge: 7}, 0)
		l[0].Heard.Cost++
		bestIs(t, 7, l, impl.Vec{Root: 7, Bridge: 7}, -1)
		rolesAre(t, 7, l, impl.RoIdle)
		l[0].Heard.Cost = 100000
		bestIs(t, 7, l, impl.Vec{Root: 7, Bridge: 7}, -1)
	}
	for hops := range 11 {
		l := withHeard(impl.Vec{Root: 1, Cost: 5, Hops: hops, Bridge: 2}, impl.Vec{Root: 2, Cost: 8, Hops: 4, Bridge: 2})
		if hops < 10 {
			bestIs(t, 7, l, impl.Vec{Root: 1, Cost: 6, Hops: hops + 1, Bridge: 7}, 0)
		} else {
			bestIs(t, 7, l, impl.Vec{Root: 2, Cost: 9, Hops: 5, Bridge: 7}, 1)
		}
	}
}

// Of what is heard alike the first counts, wherever it stands, and however many there are.
func TestPortsThatHeardAlike(t *testing.T) {
	v := impl.Vec{Root: 1, Cost: 10, Hops: 2, Bridge: 3, Port: 4}
	for ports := 2; ports <= 8; ports++ {
		for bits := 1; bits < 1<<ports; bits++ {
			l := slices.Repeat([]impl.Pt{heardAt(impl.Vec{Root: 1, Cost: 11, Hops: 2, Bridge: 3, Port: 4})}, ports)
			first := -1
			for port := range l {
				if bits>>port&1 == 1 {
					l[port] = heardAt(v)
					if first < 0 {
						first = port
					}
				}
			}
			bestIs(t, 7, l, impl.Vec{Root: 1, Cost: 11, Hops: 3, Bridge: 7}, first)
			roles := slices.Repeat([]int{impl.RoIdle}, ports)
			roles[first] = impl.RoRoot
			if ports <= 6 {
				rolesAre(t, 7, l, roles...)
			}
		}
	}
}

// Two ports heard alike but for one number: the less counts, at either place; of Hops neither is less.
func TestPortsThatHeardAlikeButForOneNumber(t *testing.T) {
	v := impl.Vec{Root: 3, Cost: 10, Hops: 4, Bridge: 5, Port: 6}
	for _, field := range vecFields() {
		for _, pair := range [][2]int{{1, 2}, {2, 3}, {6, 7}, {5, 7}} {
			less, more := v, v
			field.set(&less, pair[0])
			field.set(&more, pair[1])
			bestFrom(t, 50, withHeard(less, more), 0)
			if field.name != "Hops" {
				bestFrom(t, 50, withHeard(more, less), 1)
				bestFrom(t, 50, withHeard(more, less, less, more), 1)
				continue
			}
			bestIs(t, 50, withHeard(less, more), impl.Vec{Root: 3, Cost: 11, Hops: pair[0] + 1, Bridge: 50}, 0)
			bestIs(t, 50, withHeard(more, less), impl.Vec{Root: 3, Cost: 11, Hops: pair[1] + 1, Bridge: 50}, 0)
		}
	}
}

// What is heard and the Cost of the link come to the same in several ways: these are alike, too.
func TestPortsThatAreAlikeOverTheirCosts(t *testing.T) {
	alike := func(cost int, hops int) impl.Pt {
		return impl.Pt{Up: true, Cost: cost, Has: true, Heard: impl.Vec{Root: 1, Cost: 100 - cost, Hops: hops, Bridge: 3, Port: 4}}
	}
	for _, costs := range [][]int{{1, 2, 3}, {3, 2, 1}, {50, 100, 50}, {2, 1, 2}, {100, 1, 99}} {
		var l []impl.Pt
		for port, cost := range costs {
			l = append(l, alike(cost, port))
		}
		bestIs(t, 7, l, impl.Vec{Root: 1, Cost: 100, Hops: 1, Bridge: 7}, 0)
		l[2].Cost--
		if l[2].Cost > 0 {
			bestIs(t, 7, l, impl.Vec{Root: 1, Cost: 99, Hops: 3, Bridge: 7}, 2)
		} else {
			bestFrom(t, 7, l, 0)
		}
		l[0].Heard.Cost++
		l[2] = silent()
		bestIs(t, 7, l, impl.Vec{Root: 1, Cost: 100, Hops: 2, Bridge: 7}, 1)
	}
}

func TestJustMaxPortsAndMore(t *testing.T) {
	for ports, want := range []int{0, 1, 3, 7, 15, 31, 63, 63, 63} {
		l := slices.Repeat([]impl.Pt{silent()}, ports)
		if bits := impl.Sends(7, l); bits != want {
			t.Errorf("Sends of %d ports = %b", ports, bits)
		}
		areRoles(t, 7, l)
	}
	if bits := impl.Sends(7, slices.Repeat([]impl.Pt{silent()}, 200)); bits != 63 {
		t.Errorf("Sends of 200 ports = %b", bits)
	}
}

// Sends tells of the first MaxPorts alone, but the best may be of a port behind them.
func TestBestBehindMaxPorts(t *testing.T) {
	for _, ports := range []int{6, 7, 8, 64, 65, 66, 130} {
		l := slices.Repeat([]impl.Pt{heardAt(impl.Vec{Root: 1, Cost: 20, Bridge: 2})}, ports)
		l[ports-1] = heardAt(impl.Vec{Root: 1, Cost: 19, Hops: 3, Bridge: 2})
		if v, from := impl.BestVec(7, l); from != ports-1 || v != (impl.Vec{Root: 1, Cost: 20, Hops: 4, Bridge: 7}) {
			t.Errorf("BestVec of %d ports = %+v, %d", ports, v, from)
		}
		want := 0
		if ports == 6 {
			want = 32
		}
		if bits := impl.Sends(7, l); bits != want || impl.RoleOf(7, l, ports-1) != impl.RoRoot || impl.RoleOf(7, l, ports-2) != impl.RoIdle || impl.RoleOf(7, l, ports) != impl.RoDown {
			t.Errorf("%d ports: Sends = %b", ports, bits)
		}
		rootPorts(t, 7, l)
		l[ports-1] = silent()
		if bits := impl.Sends(7, l); bits != 1|want || impl.RoleOf(7, l, 0) != impl.RoRoot || impl.RoleOf(7, l, ports-1) != impl.RoTold {
			t.Errorf("%d ports: Sends = %b", ports, bits)
		}
	}
}

func TestPortsThatAreNotThere(t *testing.T) {
	for _, l := range [][]impl.Pt{nil, {silent()}, {silent(), silent(), silent()}, slices.Repeat([]impl.Pt{silent()}, 6)} {
		for _, port := range []int{-1, -2, len(l), len(l) + 1, 64, -64, math.MaxInt, math.MinInt} {
			if role := impl.RoleOf(7, l, port); role != impl.RoDown {
				t.Errorf("RoleOf(7, %+v, %d) = %d", l, port, role)
			}
		}
		// Without a best its port is -1, which is none all the same.
		rootPorts(t, 7, l)
	}
}

// None of these asks whether the ports are right.
func TestPortsThatAreWrong(t *testing.T) {
	v := impl.Vec{Root: 1, Cost: 10, Hops: 2, Bridge: 3, Port: 4}
	notUp := impl.Pt{Cost: 1, Has: true, Heard: v}
	hasNot := impl.Pt{Up: true, Cost: 1, Heard: v}
	neither := impl.Pt{Cost: 1, Heard: v}
	bestIs(t, 7, []impl.Pt{notUp, hasNot, neither}, impl.Vec{Root: 7, Bridge: 7}, -1)
	rolesAre(t, 7, []impl.Pt{notUp, hasNot, neither}, impl.RoDown, impl.RoTold, impl.RoDown)
	l := []impl.Pt{notUp, hasNot, neither, heardAt(impl.Vec{Root: 2, Cost: 10, Hops: 2, Bridge: 3, Port: 4})}
	bestIs(t, 7, l, impl.Vec{Root: 2, Cost: 11, Hops: 3, Bridge: 7}, 3)
	rolesAre(t, 7, l, impl.RoDown, impl.RoTold, impl.RoDown, impl.RoRoot)
	rolesAre(t, 7, []impl.Pt{{}, {Up: true}, {Has: true}, {Up: true, Has: true}}, impl.RoDown, impl.RoTold, impl.RoDown, impl.RoIdle)
}

// What is heard and is no vector is never the best; by its numbers alone it is still less, or not, than what is said.
func TestWhatIsHeardAndIsNoVector(t *testing.T) {
	for _, field := range vecFields() {
		for _, n := range []int{field.least - 1, field.most + 1, math.MinInt, math.MaxInt} {
			v := impl.Vec{Root: 1, Cost: 10, Hops: 2, Bridge: 3, Port: 4}
			field.set(&v, n)
			bestIs(t, 7, withHeard(v), impl.Vec{Root: 7, Bridge: 7}, -1)
			want := impl.RoIdle
			if field.name == "Root" && n > 7 {
				want = impl.RoTold
			}
			rolesAre(t, 7, withHeard(v), want)
			bestFrom(t, 7, withHeard(v, impl.Vec{Root: 6, Bridge: 6}), 1)
			bestFrom(t, 7, withHeard(impl.Vec{Root: 6, Bridge: 6}, v), 0)
		}
	}
	rolesAre(t, 7, withHeard(impl.Vec{Root: 7, Bridge: 7, Port: -1}, impl.Vec{Root: 7, Bridge: 7, Port: 8}), impl.RoIdle, impl.RoTold)
	rolesAre(t, 7, withHeard(impl.Vec{Root: 7, Cost: -1, Bridge: 99}, impl.Vec{Root: 7, Cost: 100001, Bridge: 1}), impl.RoIdle, impl.RoTold)
	rolesAre(t, 7, withHeard(impl.Vec{Root: 7, Bridge: 0}, impl.Vec{Root: 7, Bridge: 100}), impl.RoIdle, impl.RoTold)
}

func TestIdsThatAreNone(t *testing.T) {
	l := []impl.Pt{heardAt(impl.Vec{Root: 99, Cost: 10, Hops: 2, Bridge: 3, Port: 4}), silent(), heardAt(impl.Vec{Root: 1, Cost: 99999, Hops: 9, Bridge: 99, Port: 7})}
	for _, id := range []int{0, -1, -99, math.MinInt, math.MinInt + 1} {
		bestIs(t, id, l, impl.Vec{Root: id, Bridge: id}, -1)
		rolesAre(t, id, l, impl.RoTold, impl.RoTold, impl.RoTold)
	}
	for _, id := range []int{100, 101, 1 << 32, math.MaxInt, math.MaxInt - 1} {
		bestIs(t, id, l, impl.Vec{Root: 1, Cost: 100000, Hops: 10, Bridge: id}, 2)
		rolesAre(t, id, l, impl.RoTold, impl.RoTold, impl.RoRoot)
		bestIs(t, id, l[:1], impl.Vec{Root: 99, Cost: 11, Hops: 3, Bridge: id}, 0)
	}
	bestIs(t, 99, l[:1], impl.Vec{Root: 99, Bridge: 99}, -1)
	bestIs(t, 100, nil, impl.Vec{Root: 100, Bridge: 100}, -1)
}

// somePts are ports of few values in each of their parts, right and wrong ones.
func somePts() []impl.Pt {
	all := []impl.Pt{{}, down(), silent(), {Cost: 1, Has: true, Heard: impl.Vec{Root: 1, Bridge: 1}}, {Up: true, Cost: 1, Heard: impl.Vec{Root: 1, Bridge: 1}}, {Up: true, Cost: 1, Has: true}, {Up: true, Has: true, Heard: impl.Vec{Root: 1, Bridge: 1}}}
	for _, root := range []int{1, 2} {
		for _, cost := range []int{0, 1} {
			for _, bridge := range []int{1, 2} {
				for _, link := range []int{1, 2} {
					all = append(all, impl.Pt{Up: true, Cost: link, Has: true, Heard: impl.Vec{Root: root, Cost: cost, Hops: bridge, Bridge: bridge, Port: link}})
				}
			}
		}
	}
	return append(all, heardAt(impl.Vec{Root: 1, Cost: 100000, Bridge: 1}), heardAt(impl.Vec{Root: 1, Hops: 10, Bridge: 1}), heardAt(impl.Vec{Root: 100, Bridge: 1}))
}

// All lists of up to three of these ports.
func TestPortForTheRootOfAllSmallLists(t *testing.T) {
	all := somePts()
	for _, id := range []int{0, 1, 2, 3} {
		for _, one := range all {
			areRoles(t, id, []impl.Pt{one})
			for _, two := range all {
				areRoles(t, id, []impl.Pt{one, two})
				for _, three := range all {
					areRoles(t, id, []impl.Pt{one, two, three})
				}
			}
		}
	}
}

// Longer lists of ports, each drawn by a fixed rule.
func TestPortForTheRootOfLongerLists(t *testing.T) {
	all := somePts()
	draw := uint64(10)
	next := func(below int) int {
		draw = draw*6364136223846793005 + 1442695040888963407
		return int(draw>>33) % below
	}
	for range 4000 {
		var l []impl.Pt
		for range next(10) {
			l = append(l, all[next(len(all))])
		}
		areRoles(t, next(5), l)
	}
}

// Nothing is kept from one call to another.
func TestRolesHangOnTheirPortsAlone(t *testing.T) {
	l := withHeard(impl.Vec{Root: 1, Cost: 10, Hops: 2, Bridge: 3, Port: 4}, impl.Vec{Root: 1, Cost: 9, Hops: 2, Bridge: 3, Port: 4})
	for range 3 {
		bestFrom(t, 7, l, 1)
		bestFrom(t, 7, l[:1], 0)
		bestFrom(t, 1, l, -1)
		bestFrom(t, 7, nil, -1)
	}
}

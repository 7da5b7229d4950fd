package tests

import (
	"math"
	"slices"
	"testing"

	"loop.example/g00326/impl"
)

// hasBit, rightVtab and the models below say the document's words once more, plainly, row by row.
func hasBit(n int, port int) bool {
	return port >= 0 && port < 64 && uint64(n)>>port&1 == 1
}

func rightVrow(r impl.Vrow, ports int) bool {
	for bit := range 64 {
		if hasBit(r.Members, bit) && bit >= ports || hasBit(r.Bare, bit) && !hasBit(r.Members, bit) {
			return false
		}
	}
	return r.Id >= 1 && r.Id <= 99
}

func rightVtab(v impl.Vtab, ports int) bool {
	for i, r := range v.Rows {
		if !rightVrow(r, ports) || i > 0 && r.Id <= v.Rows[i-1].Id {
			return false
		}
	}
	for _, id := range v.Pvid {
		if wantRowAt(v, id) < 0 {
			return false
		}
	}
	return ports >= 1 && ports <= 6 && len(v.Pvid) == ports && len(v.Rows) <= 6
}

func wantRowAt(v impl.Vtab, id int) int {
	for i, r := range v.Rows {
		if r.Id == id {
			return i
		}
	}
	return -1
}

func wantClass(v impl.Vtab, port int, tag int) (int, bool) {
	if port < 0 || port >= len(v.Pvid) {
		return 0, false
	}
	if tag == 0 {
		tag = v.Pvid[port]
	}
	if at := wantRowAt(v, tag); at >= 0 && hasBit(v.Rows[at].Members, port) {
		return tag, true
	}
	return 0, false
}

func wantEgress(v impl.Vtab, id int) int {
	if at := wantRowAt(v, id); at >= 0 {
		return v.Rows[at].Members
	}
	return 0
}

func wantShown(v impl.Vtab, id int, port int) int {
	if at := wantRowAt(v, id); at >= 0 && !hasBit(v.Rows[at].Bare, port) {
		return id
	}
	return 0
}

func sameVtab(a impl.Vtab, b impl.Vtab) bool {
	return slices.Equal(a.Rows, b.Rows) && slices.Equal(a.Pvid, b.Pvid)
}

// unlessWrong is what is answered by a change of v that would make it would.
func unlessWrong(v impl.Vtab, would impl.Vtab) (impl.Vtab, bool) {
	if ports := len(v.Pvid); !rightVtab(v, ports) || !rightVtab(would, ports) {
		return v, false
	}
	return would, true
}

func wantPutRow(v impl.Vtab, r impl.Vrow) (impl.Vtab, bool) {
	if at := wantRowAt(v, r.Id); at >= 0 {
		return unlessWrong(v, impl.Vtab{Rows: slices.Concat(v.Rows[:at], []impl.Vrow{r}, v.Rows[at+1:]), Pvid: v.Pvid})
	}
	at := slices.IndexFunc(v.Rows, func(other impl.Vrow) bool { return other.Id > r.Id })
	if at < 0 {
		at = len(v.Rows)
	}
	return unlessWrong(v, impl.Vtab{Rows: slices.Concat(v.Rows[:at], []impl.Vrow{r}, v.Rows[at:]), Pvid: v.Pvid})
}

func wantDropRow(v impl.Vtab, id int) (impl.Vtab, bool) {
	at := wantRowAt(v, id)
	if at < 0 {
		return v, false
	}
	return unlessWrong(v, impl.Vtab{Rows: slices.Concat(v.Rows[:at], v.Rows[at+1:]), Pvid: v.Pvid})
}

func wantSetPvid(v impl.Vtab, port int, id int) (impl.Vtab, bool) {
	if port < 0 || port >= len(v.Pvid) {
		return v, false
	}
	return unlessWrong(v, impl.Vtab{Rows: v.Rows, Pvid: slices.Concat(v.Pvid[:port], []int{id}, v.Pvid[port+1:])})
}

// askedOf hands v to a call, with spare room behind its lists and without, and
// wants nothing written there, neither by the call nor by who writes over the answer.
func askedOf(t *testing.T, v impl.Vtab, call func(v impl.Vtab) impl.Vtab) impl.Vtab {
	t.Helper()
	rows := append(slices.Clone(v.Rows), impl.Vrow{Id: 2, Members: 3, Bare: 1}, impl.Vrow{Id: 98}, impl.Vrow{Id: 99, Members: 1})
	pvid := append(slices.Clone(v.Pvid), 1, 2, 98)
	keptRows, keptPvid := slices.Clone(rows), slices.Clone(pvid)
	var answer impl.Vtab
	for _, spare := range []int{3, 0} {
		got := call(impl.Vtab{Rows: rows[: len(v.Rows) : len(v.Rows)+spare], Pvid: pvid[: len(v.Pvid) : len(v.Pvid)+spare]})
		answer = impl.Vtab{Rows: slices.Clone(got.Rows), Pvid: slices.Clone(got.Pvid)}
		overwrite(got.Rows, impl.Vrow{Id: -7, Members: -7, Bare: -7})
		overwrite(got.Pvid, -7)
		if !slices.Equal(rows, keptRows) || !slices.Equal(pvid, keptPvid) {
			t.Fatalf("%+v was written: %+v, %+v", v, rows, pvid)
		}
	}
	return answer
}

// overwrite fills a list and the spare room behind it.
func overwrite[T any](l []T, with T) {
	whole := l[:cap(l)]
	for i := range whole {
		whole[i] = with
	}
}

// isChange wants a change of v to answer as its model does.
func isChange(t *testing.T, v impl.Vtab, change func(v impl.Vtab) (impl.Vtab, bool), model func(v impl.Vtab) (impl.Vtab, bool), what ...any) {
	t.Helper()
	var ok bool
	got := askedOf(t, v, func(v impl.Vtab) (x impl.Vtab) {
		x, ok = change(v)
		return x
	})
	if want, wantOk := model(v); ok != wantOk || !sameVtab(got, want) {
		t.Errorf("%+v of %+v = %+v, %v; want %+v, %v", what, v, got, ok, want, wantOk)
	}
}

func isPutRow(t *testing.T, v impl.Vtab, r impl.Vrow) {
	t.Helper()
	put := func(v impl.Vtab) (impl.Vtab, bool) { return impl.PutRow(v, r) }
	isChange(t, v, put, func(v impl.Vtab) (impl.Vtab, bool) { return wantPutRow(v, r) }, "PutRow", r)
}

func isDropRow(t *testing.T, v impl.Vtab, id int) {
	t.Helper()
	drop := func(v impl.Vtab) (impl.Vtab, bool) { return impl.DropRow(v, id) }
	isChange(t, v, drop, func(v impl.Vtab) (impl.Vtab, bool) { return wantDropRow(v, id) }, "DropRow", id)
}

func isSetPvid(t *testing.T, v impl.Vtab, port int, id int) {
	t.Helper()
	set := func(v impl.Vtab) (impl.Vtab, bool) { return impl.SetPvid(v, port, id) }
	isChange(t, v, set, func(v impl.Vtab) (impl.Vtab, bool) { return wantSetPvid(v, port, id) }, "SetPvid", port, id)
}

// isVtabTold wants what only asks to answer as told, of this port and this Id or tag.
func isVtabTold(t *testing.T, v impl.Vtab, port int, id int) {
	t.Helper()
	var at, class, egress, shown int
	var in, ok bool
	askedOf(t, v, func(v impl.Vtab) impl.Vtab {
		ok, at, egress, shown = impl.VtabOk(v, len(v.Pvid)), impl.RowAt(v, id), impl.EgressOf(v, id), impl.ShownTag(v, id, port)
		class, in = impl.ClassOf(v, port, id)
		return impl.Vtab{}
	})
	if want := rightVtab(v, len(v.Pvid)); ok != want {
		t.Errorf("VtabOk(%+v, %d) = %v; want %v", v, len(v.Pvid), ok, want)
	}
	if want := wantRowAt(v, id); at != want {
		t.Errorf("RowAt(%+v, %d) = %d; want %d", v, id, at, want)
	}
	if want, wantIn := wantClass(v, port, id); class != want || in != wantIn {
		t.Errorf("ClassOf(%+v, %d, %d) = %d, %v; want %d, %v", v, port, id, class, in, want, wantIn)
	}
	if want := wantEgress(v, id); egress != want {
		t.Errorf("EgressOf(%+v, %d) = %d; want %d", v, id, egress, want)
	}
	if want := wantShown(v, id, port); shown != want {
		t.Errorf("ShownTag(%+v, %d, %d) = %d; want %d", v, id, port, shown, want)
	}
}

func vtabPorts() []int {
	return []int{-1, 0, 1, 2, 3, 4, 5, 6, 7, 31, 32, 62, 63, 64, 65, math.MaxInt, math.MinInt}
}

// allAskedOf wants everything that can be asked of v, and each change of it, as the document says it.
func allAskedOf(t *testing.T, v impl.Vtab) {
	t.Helper()
	ids := []int{-1, 0, 1, 2, 50, 98, 99, 100, math.MaxInt, math.MinInt}
	for _, r := range v.Rows {
		ids = append(ids, r.Id)
	}
	ids = append(ids, v.Pvid...)
	for _, id := range ids {
		for _, port := range vtabPorts() {
			isVtabTold(t, v, port, id)
			isSetPvid(t, v, port, id)
		}
		isDropRow(t, v, id)
		for _, members := range []int{0, 1, 2, 3, 63, 64, -1} {
			isPutRow(t, v, impl.Vrow{Id: id, Members: members})
			isPutRow(t, v, impl.Vrow{Id: id, Members: members, Bare: 1})
		}
	}
}

// noVtab wants v to be wrong for every number of ports, each change of it to be
// refused, and what does not ask for VtabOk to be told row by row.
func noVtab(t *testing.T, v impl.Vtab) {
	t.Helper()
	for _, ports := range []int{-1, 0, 1, 2, 3, 4, 5, 6, 7, len(v.Pvid)} {
		if impl.VtabOk(v, ports) || rightVtab(v, ports) {
			t.Errorf("VtabOk(%+v, %d) = true", v, ports)
		}
	}
	ids := []int{1, 2, 50, 99}
	for _, r := range v.Rows {
		ids = append(ids, r.Id)
	}
	for _, id := range ids {
		if x, ok := impl.PutRow(v, impl.Vrow{Id: id}); ok || !sameVtab(x, v) {
			t.Errorf("PutRow(%+v, %d) = %+v, %v; want it as it is, false", v, id, x, ok)
		}
		if x, ok := impl.DropRow(v, id); ok || !sameVtab(x, v) {
			t.Errorf("DropRow(%+v, %d) = %+v, %v; want it as it is, false", v, id, x, ok)
		}
		for port := range 7 {
			if x, ok := impl.SetPvid(v, port, id); ok || !sameVtab(x, v) {
				t.Errorf("SetPvid(%+v, %d, %d) = %+v, %v; want it as it is, false", v, port, id, x, ok)
			}
		}
	}
	allAskedOf(t, v)
}

// tensVtab has this many rows, from 10 on by tens, and all ports' Pvid in the first of them.
func tensVtab(ports int, rows int) impl.Vtab {
	v := impl.Vtab{Pvid: slices.Repeat([]int{10}, ports)}
	for i := range rows {
		members := (i*5 + 3) & (1<<ports - 1)
		v.Rows = append(v.Rows, impl.Vrow{Id: 10 + 10*i, Members: members, Bare: members & 2})
	}
	return v
}

func TestVlanConstants(t *testing.T) {
	if impl.MaxPorts != 6 || impl.MaxVlans != 6 {
		t.Errorf("MaxPorts = %d, MaxVlans = %d", impl.MaxPorts, impl.MaxVlans)
	}
}

func TestNewNetworks(t *testing.T) {
	all := []int{0, 1, 3, 7, 15, 31, 63}
	for ports := 1; ports <= 6; ports++ {
		v := impl.VtabNew(ports)
		want := impl.Vtab{Rows: []impl.Vrow{{Id: 1, Members: all[ports], Bare: all[ports]}}, Pvid: slices.Repeat([]int{1}, ports)}
		if !sameVtab(v, want) {
			t.Errorf("VtabNew(%d) = %+v; want %+v", ports, v, want)
		}
		for others := -1; others <= 8; others++ {
			if impl.VtabOk(v, others) != (others == ports) {
				t.Errorf("VtabOk(%+v, %d) = %v", v, others, others != ports)
			}
		}
		for port := range ports {
			if id, ok := impl.ClassOf(v, port, 0); id != 1 || !ok {
				t.Errorf("a frame without a tag at the port %d of %d is of %d, %v", port, ports, id, ok)
			}
			if impl.ShownTag(v, 1, port) != 0 {
				t.Errorf("a frame goes out of the port %d of %d with a tag", port, ports)
			}
		}
		allAskedOf(t, v)
	}
}

func TestNewNetworksOfNoSuchPorts(t *testing.T) {
	for _, ports := range []int{0, -1, -2, -6, 7, 8, 63, 64, 65, math.MaxInt, math.MinInt} {
		v := impl.VtabNew(ports)
		if len(v.Rows) != 0 || len(v.Pvid) != 0 {
			t.Errorf("VtabNew(%d) = %+v", ports, v)
		}
		if impl.VtabOk(v, ports) {
			t.Errorf("VtabOk of it and %d", ports)
		}
	}
	noVtab(t, impl.Vtab{})
	noVtab(t, impl.Vtab{Rows: []impl.Vrow{}, Pvid: []int{}})
}

func TestNewNetworksAreNewEachTime(t *testing.T) {
	v := impl.VtabNew(3)
	overwrite(v.Rows, impl.Vrow{})
	overwrite(v.Pvid, 0)
	if w := impl.VtabNew(3); !impl.VtabOk(w, 3) || w.Rows[0].Members != 7 {
		t.Errorf("behind one that was written over: %+v", w)
	}
}

func TestNetworksAsWrittenOut(t *testing.T) {
	v := impl.VtabNew(4)
	for _, r := range []impl.Vrow{{Id: 20, Members: 6, Bare: 4}, {Id: 5, Members: 9, Bare: 9}, {Id: 99, Members: 15}} {
		x, ok := impl.PutRow(v, r)
		if !ok {
			t.Fatalf("PutRow(%+v, %+v) is refused", v, r)
		}
		v = x
	}
	v, ok := impl.SetPvid(v, 2, 20)
	want := impl.Vtab{Rows: []impl.Vrow{{Id: 1, Members: 15, Bare: 15}, {Id: 5, Members: 9, Bare: 9}, {Id: 20, Members: 6, Bare: 4}, {Id: 99, Members: 15}}, Pvid: []int{1, 1, 20, 1}}
	if !ok || !sameVtab(v, want) {
		t.Fatalf("%+v, %v; want %+v", v, ok, want)
	}
	for _, c := range []struct {
		port, tag, id int
		in            bool
	}{
		{0, 0, 1, true}, {1, 0, 1, true}, {2, 0, 20, true}, {3, 0, 1, true}, {4, 0, 0, false}, {-1, 0, 0, false},
		{0, 5, 5, true}, {1, 5, 0, false}, {2, 5, 0, false}, {3, 5, 5, true}, {4, 5, 0, false},
		{0, 20, 0, false}, {1, 20, 20, true}, {2, 20, 20, true}, {3, 20, 0, false},
		{2, 1, 1, true}, {0, 99, 99, true}, {0, 6, 0, false}, {0, 100, 0, false}, {0, -1, 0, false},
	} {
		if id, in := impl.ClassOf(v, c.port, c.tag); id != c.id || in != c.in {
			t.Errorf("ClassOf the port %d and the tag %d = %d, %v", c.port, c.tag, id, in)
		}
	}
	for _, c := range [][5]int{{1, 0, 0, 0, 0}, {5, 0, 5, 5, 0}, {20, 20, 20, 0, 20}, {99, 99, 99, 99, 99}, {2, 0, 0, 0, 0}, {0, 0, 0, 0, 0}} {
		for port := range 4 {
			if tag := impl.ShownTag(v, c[0], port); tag != c[1+port] {
				t.Errorf("ShownTag of %d by the port %d = %d", c[0], port, tag)
			}
		}
	}
	for _, c := range [][3]int{{1, 0, 15}, {5, 1, 9}, {20, 2, 6}, {99, 3, 15}, {2, -1, 0}, {0, -1, 0}, {-1, -1, 0}, {100, -1, 0}} {
		if at, members := impl.RowAt(v, c[0]), impl.EgressOf(v, c[0]); at != c[1] || members != c[2] {
			t.Errorf("RowAt and EgressOf of %d = %d, %d", c[0], at, members)
		}
	}
	allAskedOf(t, v)
}

// A row comes ahead of all, behind all, or between any two; the others stay.
func TestRowsComeInTheirPlace(t *testing.T) {
	for rows := 1; rows <= 5; rows++ {
		v := tensVtab(3, rows)
		for id := 1; id <= 99; id++ {
			r := impl.Vrow{Id: id, Members: 5, Bare: 4}
			x, ok := impl.PutRow(v, r)
			at := impl.RowAt(x, id)
			if !ok || !impl.VtabOk(x, 3) || at < 0 || x.Rows[at] != r || !slices.Equal(x.Pvid, v.Pvid) {
				t.Fatalf("PutRow(%+v, %+v) = %+v, %v", v, r, x, ok)
			}
			for _, other := range v.Rows {
				if other.Id != id && !slices.Contains(x.Rows, other) {
					t.Errorf("PutRow(%+v, %+v) lost %+v", v, r, other)
				}
			}
			isPutRow(t, v, r)
		}
	}
}

func TestOrderOfPuttingDoesNotCount(t *testing.T) {
	all := []impl.Vrow{{Id: 2, Members: 3}, {Id: 3, Members: 1, Bare: 1}, {Id: 50}, {Id: 98, Members: 2, Bare: 2}, {Id: 99, Members: 3, Bare: 2}}
	want := slices.Concat([]impl.Vrow{{Id: 1, Members: 3, Bare: 3}}, all)
	for stride := 1; stride < 5; stride++ {
		for start := range all {
			v := impl.VtabNew(2)
			for i := range all {
				v, _ = impl.PutRow(v, all[(start+i*stride)%5])
			}
			if !slices.Equal(v.Rows, want) {
				t.Errorf("by %d from %d: %+v", stride, start, v.Rows)
			}
		}
	}
}

func TestRowsThatArePutAnew(t *testing.T) {
	for rows := 1; rows <= 6; rows++ {
		v := tensVtab(3, rows)
		for at := range rows {
			for members := range 8 {
				for bare := range 8 {
					r := impl.Vrow{Id: 10 + 10*at, Members: members, Bare: bare}
					x, ok := impl.PutRow(v, r)
					want := impl.Vtab{Rows: slices.Clone(v.Rows), Pvid: v.Pvid}
					if bare&^members == 0 {
						want.Rows[at] = r
					}
					if ok != (bare&^members == 0) || !sameVtab(x, want) {
						t.Errorf("PutRow(%+v, %+v) = %+v, %v", v, r, x, ok)
					}
					isPutRow(t, v, r)
				}
			}
		}
	}
}

func TestRowsThatAreDropped(t *testing.T) {
	for rows := 1; rows <= 6; rows++ {
		v := tensVtab(2, rows)
		for id := -1; id <= 101; id++ {
			x, ok := impl.DropRow(v, id)
			there := id > 10 && id%10 == 0 && id <= 10*rows
			if ok != there || ok && (impl.RowAt(x, id) != -1 || len(x.Rows) != rows-1) || !ok && !sameVtab(x, v) {
				t.Errorf("DropRow(%+v, %d) = %+v, %v", v, id, x, ok)
			}
			isDropRow(t, v, id)
		}
	}
	for _, id := range strayNumbers() {
		isDropRow(t, tensVtab(6, 6), id)
	}
}

// A row goes only where no port's Pvid is its Id, be it the first port or the last.
func TestRowsThatAPortBelongsToStay(t *testing.T) {
	for ports := 1; ports <= 6; ports++ {
		for port := range ports {
			for at := 1; at < 4; at++ {
				v := tensVtab(ports, 4)
				v.Pvid[port] = v.Rows[at].Id
				if x, ok := impl.DropRow(v, v.Rows[at].Id); ok || !sameVtab(x, v) {
					t.Errorf("DropRow(%+v, %d) = %+v, %v", v, v.Rows[at].Id, x, ok)
				}
				free, ok := impl.SetPvid(v, port, 10)
				if !ok {
					t.Fatalf("SetPvid(%+v, %d, 10) is refused", v, port)
				}
				if x, ok := impl.DropRow(free, v.Rows[at].Id); !ok || len(x.Rows) != 3 {
					t.Errorf("DropRow(%+v, %d) = %+v, %v", free, v.Rows[at].Id, x, ok)
				}
				allAskedOf(t, v)
			}
		}
		v := impl.VtabNew(ports)
		if x, ok := impl.DropRow(v, 1); ok || !sameVtab(x, v) {
			t.Errorf("DropRow(%+v, 1) = %+v, %v", v, x, ok)
		}
	}
}

func TestPvidsThatAreSet(t *testing.T) {
	for ports := 1; ports <= 6; ports++ {
		v := tensVtab(ports, 6)
		for port := -2; port <= 8; port++ {
			for id := -1; id <= 101; id++ {
				x, ok := impl.SetPvid(v, port, id)
				want := impl.Vtab{Rows: v.Rows, Pvid: slices.Clone(v.Pvid)}
				right := port >= 0 && port < ports && id >= 10 && id <= 60 && id%10 == 0
				if right {
					want.Pvid[port] = id
				}
				if ok != right || !sameVtab(x, want) {
					t.Errorf("SetPvid(%+v, %d, %d) = %+v, %v", v, port, id, x, ok)
				}
			}
			isSetPvid(t, v, port, 20)
			isSetPvid(t, v, port, 21)
		}
	}
}

// A port may belong to a row that it is no member of: then its frames without a tag belong to none.
func TestPvidOfARowWithoutThePort(t *testing.T) {
	v := impl.Vtab{Rows: []impl.Vrow{{Id: 3, Members: 2}, {Id: 4}, {Id: 5, Members: 3, Bare: 1}}, Pvid: []int{5, 5}}
	for _, id := range []int{3, 4} {
		x, ok := impl.SetPvid(v, 0, id)
		if !ok || !impl.VtabOk(x, 2) {
			t.Fatalf("SetPvid(%+v, 0, %d) = %+v, %v", v, id, x, ok)
		}
		if class, in := impl.ClassOf(x, 0, 0); class != 0 || in {
			t.Errorf("ClassOf(%+v, 0, 0) = %d, %v", x, class, in)
		}
		if class, in := impl.ClassOf(x, 0, 5); class != 5 || !in {
			t.Errorf("ClassOf(%+v, 0, 5) = %d, %v", x, class, in)
		}
		allAskedOf(t, x)
	}
}

func TestRowWithoutMembers(t *testing.T) {
	for ports := 1; ports <= 6; ports++ {
		v, ok := impl.PutRow(impl.VtabNew(ports), impl.Vrow{Id: 7})
		if !ok || impl.EgressOf(v, 7) != 0 || impl.RowAt(v, 7) != 1 {
			t.Errorf("%+v, %v", v, ok)
		}
		for port := range ports {
			if class, in := impl.ClassOf(v, port, 7); class != 0 || in {
				t.Errorf("ClassOf(%+v, %d, 7) = %d, %v", v, port, class, in)
			}
			if tag := impl.ShownTag(v, 7, port); tag != 7 {
				t.Errorf("ShownTag(%+v, 7, %d) = %d", v, port, tag)
			}
		}
		if x, ok := impl.PutRow(v, impl.Vrow{Id: 7, Bare: 1}); ok || !sameVtab(x, v) {
			t.Errorf("PutRow of a Bare without Members: %+v, %v", x, ok)
		}
		if x, ok := impl.PutRow(v, impl.Vrow{Id: 1}); !ok || x.Rows[0] != (impl.Vrow{Id: 1}) {
			t.Errorf("PutRow anew without Members: %+v, %v", x, ok)
		}
		allAskedOf(t, v)
	}
}

// Each bit beyond the ports is another one, at the lowest and the highest as well.
func TestMembersThatAreNoPorts(t *testing.T) {
	for ports := 1; ports <= 6; ports++ {
		v := impl.VtabNew(ports)
		for bit := range 64 {
			r := impl.Vrow{Id: 2, Members: 1 << bit}
			bare := impl.Vrow{Id: 2, Members: 1 << bit, Bare: 1 << bit}
			for _, r := range []impl.Vrow{r, bare} {
				if x, ok := impl.PutRow(v, r); ok != (bit < ports) || !ok && !sameVtab(x, v) {
					t.Errorf("PutRow(%+v, %+v) = %+v, %v", v, r, x, ok)
				}
				if w := (impl.Vtab{Rows: append(slices.Clone(v.Rows), r), Pvid: v.Pvid}); impl.VtabOk(w, ports) != (bit < ports) {
					t.Errorf("VtabOk(%+v, %d) = %v", w, ports, bit >= ports)
				}
				isPutRow(t, v, r)
			}
			all := 1<<ports - 1
			only := impl.Vrow{Id: 2, Members: all &^ (1 << bit), Bare: 1 << bit}
			if x, ok := impl.PutRow(v, only); ok || !sameVtab(x, v) {
				t.Errorf("PutRow(%+v, %+v) = %+v, %v", v, only, x, ok)
			}
		}
		for _, members := range []int{1 << ports, 1<<ports - 1, -1, math.MinInt, math.MaxInt} {
			isPutRow(t, v, impl.Vrow{Id: 2, Members: members})
			isPutRow(t, v, impl.Vrow{Id: 2, Members: members, Bare: members})
			isPutRow(t, v, impl.Vrow{Id: 2, Members: 1, Bare: members})
		}
	}
}

func TestIdsAtTheirEndsInNetworks(t *testing.T) {
	for _, id := range append([]int{0, 1, 2, 98, 99, 100, -1, math.MaxInt, math.MinInt}, strayNumbers()...) {
		right := id >= 1 && id <= 99
		v := impl.Vtab{Rows: []impl.Vrow{{Id: id, Members: 3, Bare: 1}}, Pvid: []int{id, id}}
		if impl.VtabOk(v, 2) != right {
			t.Errorf("VtabOk(%+v, 2) = %v", v, !right)
		}
		allAskedOf(t, v)
		for _, w := range []impl.Vtab{impl.VtabNew(2), tensVtab(2, 5)} {
			if x, ok := impl.PutRow(w, impl.Vrow{Id: id, Members: 3}); ok != right || !ok && !sameVtab(x, w) {
				t.Errorf("PutRow(%+v, %d) = %+v, %v", w, id, x, ok)
			}
			isPutRow(t, w, impl.Vrow{Id: id})
			isSetPvid(t, w, 0, id)
			isDropRow(t, w, id)
		}
		if !right {
			noVtab(t, v)
		}
	}
}

func TestJustAsManyRowsAsThereMayBe(t *testing.T) {
	for ports := 1; ports <= 6; ports++ {
		v := tensVtab(ports, 6)
		if !impl.VtabOk(v, ports) {
			t.Fatalf("VtabOk(%+v, %d) = false", v, ports)
		}
		for _, id := range []int{1, 9, 11, 35, 59, 61, 99} {
			if x, ok := impl.PutRow(v, impl.Vrow{Id: id}); ok || !sameVtab(x, v) {
				t.Errorf("PutRow(%+v, %d) = %+v, %v", v, id, x, ok)
			}
		}
		for _, r := range v.Rows {
			if x, ok := impl.PutRow(v, impl.Vrow{Id: r.Id, Members: 1}); !ok || len(x.Rows) != 6 {
				t.Errorf("PutRow(%+v, %d) = %+v, %v", v, r.Id, x, ok)
			}
		}
		allAskedOf(t, v)
		less, ok := impl.DropRow(v, 40)
		more, okMore := impl.PutRow(less, impl.Vrow{Id: 99})
		if !ok || !okMore || len(more.Rows) != 6 {
			t.Errorf("one for another: %+v, %v, %v", more, ok, okMore)
		}
		noVtab(t, tensVtab(ports, 7))
		noVtab(t, tensVtab(ports, 9))
	}
}

func TestNetworksWithoutRows(t *testing.T) {
	for ports := 0; ports <= 7; ports++ {
		noVtab(t, impl.Vtab{Pvid: make([]int, ports)})
		noVtab(t, impl.Vtab{Pvid: slices.Repeat([]int{1}, ports)})
		noVtab(t, impl.Vtab{Rows: make([]impl.Vrow, 0, 3), Pvid: slices.Repeat([]int{1}, ports)})
	}
}

func TestOtherNumbersOfPorts(t *testing.T) {
	for size := 0; size <= 9; size++ {
		v := impl.Vtab{Rows: []impl.Vrow{{Id: 4, Members: 1, Bare: 1}, {Id: 6}}, Pvid: slices.Repeat([]int{4}, size)}
		for _, ports := range []int{-1, 0, 1, 2, 3, 4, 5, 6, 7, 8, 9, math.MaxInt, math.MinInt} {
			want := ports == size && size >= 1 && size <= 6
			if ok := impl.VtabOk(v, ports); ok != want {
				t.Errorf("VtabOk(%+v, %d) = %v", v, ports, ok)
			}
		}
		if size < 1 || size > 6 {
			noVtab(t, v)
		}
		allAskedOf(t, v)
	}
}

func TestRowsThatDoNotAscend(t *testing.T) {
	a, b, c := impl.Vrow{Id: 3, Members: 3, Bare: 1}, impl.Vrow{Id: 4, Members: 1}, impl.Vrow{Id: 9, Members: 2, Bare: 2}
	for _, rows := range [][]impl.Vrow{
		{b, a}, {a, c, b}, {b, a, c}, {c, b, a}, {c, a, b}, {b, c, a},
		{a, a}, {a, a, b}, {a, b, b}, {a, b, a}, {a, {Id: 3, Members: 2}}, {{Id: 3, Members: 2}, a, b},
	} {
		noVtab(t, impl.Vtab{Rows: rows, Pvid: []int{3, 3}})
		noVtab(t, impl.Vtab{Rows: rows, Pvid: []int{4, 9}})
	}
}

// Of several rows of one Id the first is told.
func TestTwoRowsOfOneId(t *testing.T) {
	v := impl.Vtab{Rows: []impl.Vrow{{Id: 8, Members: 4}, {Id: 5, Members: 2, Bare: 2}, {Id: 5, Members: 1, Bare: 1}}, Pvid: []int{5, 5, 8}}
	if impl.RowAt(v, 5) != 1 || impl.EgressOf(v, 5) != 2 || impl.ShownTag(v, 5, 1) != 0 || impl.ShownTag(v, 5, 0) != 5 {
		t.Error("not the first of two")
	}
	if id, in := impl.ClassOf(v, 0, 0); id != 0 || in {
		t.Errorf("ClassOf by the second of two: %d, %v", id, in)
	}
	if id, in := impl.ClassOf(v, 1, 0); id != 5 || !in {
		t.Errorf("ClassOf by the first of two: %d, %v", id, in)
	}
	noVtab(t, v)
}

func TestPvidsThatAreNoRows(t *testing.T) {
	for ports := 1; ports <= 6; ports++ {
		for port := range ports {
			for _, id := range []int{0, 1, 9, 11, 21, 99, 100, -1, math.MaxInt, math.MinInt} {
				v := tensVtab(ports, 2)
				v.Pvid[port] = id
				if class, in := impl.ClassOf(v, port, 0); class != 0 || in {
					t.Errorf("ClassOf(%+v, %d, 0) = %d, %v", v, port, class, in)
				}
				noVtab(t, v)
			}
		}
	}
}

// A Pvid of 0, and a row of 0, are asked as they stand.
func TestRowOfZero(t *testing.T) {
	v := impl.Vtab{Rows: []impl.Vrow{{Members: 1}, {Id: 2, Members: 3, Bare: 3}}, Pvid: []int{0, 0}}
	if id, in := impl.ClassOf(v, 0, 0); id != 0 || !in {
		t.Errorf("ClassOf a member of the row 0 = %d, %v", id, in)
	}
	if id, in := impl.ClassOf(v, 1, 0); id != 0 || in {
		t.Errorf("ClassOf no member of the row 0 = %d, %v", id, in)
	}
	if impl.RowAt(v, 0) != 0 || impl.EgressOf(v, 0) != 1 {
		t.Error("the row 0 is not told")
	}
	noVtab(t, v)
}

func TestRowsThatAreWrong(t *testing.T) {
	for ports := 1; ports <= 6; ports++ {
		for at := range 3 {
			for _, wrong := range []impl.Vrow{
				{Members: 1 << ports}, {Members: 1 << ports, Bare: 1 << ports}, {Members: math.MinInt}, {Members: -1}, {Members: -1, Bare: -1},
				{Members: 1, Bare: 1 << ports}, {Members: 1, Bare: 3}, {Bare: 1}, {Members: 1, Bare: -1}, {Bare: math.MinInt},
			} {
				v := tensVtab(ports, 3)
				wrong.Id = v.Rows[at].Id
				v.Rows[at] = wrong
				noVtab(t, v)
			}
		}
	}
}

// One that is wrong is not mended: neither the row that lacks, nor the one that is too many, nor the Pvid.
func TestWrongNetworksAreNotMended(t *testing.T) {
	lacks := impl.Vtab{Rows: []impl.Vrow{{Id: 1, Members: 3}}, Pvid: []int{1, 5}}
	if x, ok := impl.PutRow(lacks, impl.Vrow{Id: 5}); ok || !sameVtab(x, lacks) {
		t.Errorf("PutRow of the one that lacks: %+v, %v", x, ok)
	}
	if x, ok := impl.SetPvid(lacks, 1, 1); ok || !sameVtab(x, lacks) {
		t.Errorf("SetPvid of the one that is wrong: %+v, %v", x, ok)
	}
	stray := impl.Vtab{Rows: []impl.Vrow{{Id: 1, Members: 3}, {Id: 2, Members: 8}}, Pvid: []int{1, 1}}
	if x, ok := impl.PutRow(stray, impl.Vrow{Id: 2}); ok || !sameVtab(x, stray) {
		t.Errorf("PutRow of the one that is wrong: %+v, %v", x, ok)
	}
	if x, ok := impl.DropRow(stray, 2); ok || !sameVtab(x, stray) {
		t.Errorf("DropRow of the one that is wrong: %+v, %v", x, ok)
	}
	many := tensVtab(2, 7)
	if x, ok := impl.DropRow(many, 70); ok || !sameVtab(x, many) {
		t.Errorf("DropRow of the one that is too many: %+v, %v", x, ok)
	}
}

// Ports that have no bit at all are in no row, though there be a Pvid for them.
func TestPortsBeyondAllBits(t *testing.T) {
	v := impl.Vtab{Rows: []impl.Vrow{{Id: 3, Members: -1, Bare: -1}, {Id: 4, Members: math.MinInt, Bare: math.MinInt}}, Pvid: slices.Repeat([]int{3, 4}, 40)}
	for port := -2; port <= 81; port++ {
		for _, tag := range []int{0, 3, 4, 5} {
			isVtabTold(t, v, port, tag)
		}
	}
	for _, c := range []struct {
		port, tag, id int
		in            bool
	}{{62, 3, 3, true}, {62, 4, 0, false}, {63, 3, 3, true}, {63, 4, 4, true}, {63, 0, 4, true}, {64, 3, 0, false}, {64, 0, 0, false}, {79, 4, 0, false}, {80, 3, 0, false}} {
		if id, in := impl.ClassOf(v, c.port, c.tag); id != c.id || in != c.in {
			t.Errorf("ClassOf the port %d and the tag %d = %d, %v", c.port, c.tag, id, in)
		}
	}
	noVtab(t, v)
}

// ShownTag asks for no port: one that is not there is not in Bare.
func TestShownTagOfPortsThatAreNotThere(t *testing.T) {
	v := impl.VtabNew(6)
	for _, port := range []int{-1, -64, 6, 7, 63, 64, math.MaxInt, math.MinInt} {
		if tag := impl.ShownTag(v, 1, port); tag != 1 {
			t.Errorf("ShownTag(%+v, 1, %d) = %d", v, port, tag)
		}
		if tag := impl.ShownTag(v, 2, port); tag != 0 {
			t.Errorf("ShownTag(%+v, 2, %d) = %d", v, port, tag)
		}
		for _, tag := range []int{0, 1, 2} {
			if id, in := impl.ClassOf(v, port, tag); id != 0 || in {
				t.Errorf("ClassOf(%+v, %d, %d) = %d, %v", v, port, tag, id, in)
			}
		}
	}
}

func smallVrows() []impl.Vrow {
	var all []impl.Vrow
	for id := range 4 {
		for _, r := range []impl.Vrow{{}, {Members: 3, Bare: 1}, {Members: 2, Bare: 2}, {Members: 4}, {Members: 1, Bare: 3}} {
			r.Id = id
			all = append(all, r)
		}
	}
	return all
}

func TestAllSmallNetworks(t *testing.T) {
	rows := smallVrows()
	tables := [][]impl.Vrow{nil}
	for _, a := range rows {
		tables = append(tables, []impl.Vrow{a})
		for _, b := range rows {
			tables = append(tables, []impl.Vrow{a, b})
		}
	}
	for _, rows := range tables {
		for both := range 16 {
			v := impl.Vtab{Rows: rows, Pvid: []int{both / 4, both % 4}}
			for id := range 5 {
				for port := -1; port <= 2; port++ {
					isVtabTold(t, v, port, id)
					isSetPvid(t, v, port, id)
				}
				isDropRow(t, v, id)
				isPutRow(t, v, impl.Vrow{Id: id, Members: 2, Bare: 2})
				isPutRow(t, v, impl.Vrow{Id: id, Members: 1, Bare: 2})
			}
		}
	}
}

// What is refused changes no network, and what is let in leaves it right, by whatever deeds.
func TestManyChangesInARow(t *testing.T) {
	for ports := 1; ports <= 6; ports++ {
		v := impl.VtabNew(ports)
		seed, refused, let := uint32(ports), 0, 0
		next := func(below int) int {
			seed = seed*1664525 + 1013904223
			return int(seed>>16) % below
		}
		for range 3000 {
			var x, want impl.Vtab
			var ok, wantOk bool
			switch next(3) {
			case 0:
				r := impl.Vrow{Id: next(12), Members: next(1<<ports + 2)}
				r.Bare = r.Members & next(64) &^ (next(8) / 7)
				x, ok = impl.PutRow(v, r)
				want, wantOk = wantPutRow(v, r)
			case 1:
				id := next(12)
				x, ok = impl.DropRow(v, id)
				want, wantOk = wantDropRow(v, id)
			default:
				port, id := next(ports+2)-1, next(12)
				x, ok = impl.SetPvid(v, port, id)
				want, wantOk = wantSetPvid(v, port, id)
			}
			if ok != wantOk || !sameVtab(x, want) || !ok && !sameVtab(x, v) || !impl.VtabOk(x, ports) {
				t.Fatalf("of %+v came %+v, %v; want %+v, %v", v, x, ok, want, wantOk)
			}
			if ok {
				let++
			} else {
				refused++
			}
			v = x
		}
		if let < 300 || refused < 300 {
			t.Errorf("%d were let in, %d refused", let, refused)
		}
	}
}

func TestNetworksThatAreFarTooLong(t *testing.T) {
	v := impl.Vtab{Pvid: slices.Repeat([]int{7}, 5000)}
	for i := range 5000 {
		v.Rows = append(v.Rows, impl.Vrow{Id: i - 2000, Members: i, Bare: i})
	}
	if impl.VtabOk(v, 5000) || impl.VtabOk(v, 6) || impl.RowAt(v, 2999) != 4999 {
		t.Error("a table of 5000 rows")
	}
	isPutRow(t, v, impl.Vrow{Id: 7})
	isDropRow(t, v, 8)
	isSetPvid(t, v, 4999, 8)
	isVtabTold(t, v, 4999, 0)
}

func TestNetworksThatAreRefusedLeaveNothingBehind(t *testing.T) {
	v := tensVtab(3, 6)
	for range 3 {
		impl.PutRow(v, impl.Vrow{Id: 70})
		impl.DropRow(v, 10)
		impl.SetPvid(v, 0, 70)
		impl.PutRow(tensVtab(3, 7), impl.Vrow{Id: 10})
		isPutRow(t, v, impl.Vrow{Id: 60, Members: 7, Bare: 7})
		isDropRow(t, v, 60)
		isSetPvid(t, v, 2, 60)
		if !impl.VtabOk(v, 3) || !sameVtab(v, tensVtab(3, 6)) {
			t.Fatalf("%+v", v)
		}
	}
}

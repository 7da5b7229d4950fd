package tests

import (
	"math"
	"slices"
	"testing"

	"loop.example/g00326/impl"
)

// fentFields are the numbers of an entry, with their ends.
func fentFields() []struct {
	name        string
	least, most int
	set         func(e *impl.Fent, n int)
} {
	return []struct {
		name        string
		least, most int
		set         func(e *impl.Fent, n int)
	}{
		{"Tag", 1, 99, func(e *impl.Fent, n int) { e.Tag = n }},
		{"Mac", 1, 9999, func(e *impl.Fent, n int) { e.Mac = n }},
		{"Port", 0, 7, func(e *impl.Fent, n int) { e.Port = n }},
		{"Age", 0, 4, func(e *impl.Fent, n int) { e.Age = n }},
	}
}

// rightFent, rightFdb and the models below say the document's words once more, plainly, entry by entry.
func rightFent(e impl.Fent) bool {
	right := e.Tag >= 1 && e.Tag <= 99 && e.Mac >= 1 && e.Mac <= 9999 && e.Port >= 0 && e.Port <= 7 && e.Age >= 0 && e.Age <= 4
	return right && !(e.Static && e.Age != 0)
}

// standsBehind tells whether e comes behind these two, by Tag, then by Mac.
func standsBehind(e impl.Fent, tag int, mac int) bool {
	if e.Tag != tag {
		return e.Tag > tag
	}
	return e.Mac > mac
}

func rightFdb(l []impl.Fent) bool {
	for i, e := range l {
		if !rightFent(e) {
			return false
		}
		if i > 0 && !standsBehind(e, l[i-1].Tag, l[i-1].Mac) {
			return false
		}
	}
	return len(l) <= 12
}

func placeOf(l []impl.Fent, tag int, mac int) int {
	return slices.IndexFunc(l, func(e impl.Fent) bool { return e.Tag == tag && e.Mac == mac })
}

func wantLookUp(l []impl.Fent, tag int, mac int) int {
	if at := placeOf(l, tag, mac); at >= 0 {
		return l[at].Port
	}
	return -1
}

func wantNext(l []impl.Fent, tag int, mac int) int {
	for i, e := range l {
		if standsBehind(e, tag, mac) {
			return i
		}
	}
	return -1
}

// wantPlaced is l with e ahead of the first that is behind it.
func wantPlaced(l []impl.Fent, e impl.Fent) []impl.Fent {
	at := wantNext(l, e.Tag, e.Mac)
	if at < 0 {
		at = len(l)
	}
	return slices.Concat(l[:at], []impl.Fent{e}, l[at:])
}

func wantLearn(l []impl.Fent, tag int, mac int, port int) []impl.Fent {
	e := impl.Fent{Tag: tag, Mac: mac, Port: port}
	if !rightFdb(l) || !rightFent(e) {
		return l
	}
	at := placeOf(l, tag, mac)
	switch {
	case at >= 0 && l[at].Static:
		return l
	case at >= 0:
		return slices.Concat(l[:at], []impl.Fent{e}, l[at+1:])
	case len(l) == 12:
		return l
	}
	return wantPlaced(l, e)
}

func wantAged(l []impl.Fent) []impl.Fent {
	var out []impl.Fent
	for _, e := range l {
		switch {
		case e.Static:
			out = append(out, e)
		case e.Age < 4:
			e.Age++
			out = append(out, e)
		}
	}
	return out
}

func wantFlushed(l []impl.Fent, port int) []impl.Fent {
	var out []impl.Fent
	for _, e := range l {
		if e.Static || e.Port != port {
			out = append(out, e)
		}
	}
	return out
}

func wantStatic(l []impl.Fent, tag int, mac int, port int) ([]impl.Fent, bool) {
	e := impl.Fent{Tag: tag, Mac: mac, Port: port, Static: true}
	if !rightFdb(l) || !rightFent(e) {
		return l, false
	}
	if at := placeOf(l, tag, mac); at >= 0 {
		return slices.Concat(l[:at], []impl.Fent{e}, l[at+1:]), true
	}
	if len(l) == 12 {
		return l, false
	}
	return wantPlaced(l, e), true
}

func wantDropped(l []impl.Fent, tag int, mac int) ([]impl.Fent, bool) {
	for i, e := range l {
		if e.Tag == tag && e.Mac == mac && e.Static {
			return slices.Concat(l[:i], l[i+1:]), true
		}
	}
	return l, false
}

// calledOn hands l to a call, with spare room behind it and without, and wants
// nothing written there, neither by the call nor by who writes over the answer.
func calledOn(t *testing.T, l []impl.Fent, call func(l []impl.Fent) []impl.Fent) []impl.Fent {
	t.Helper()
	room := append(slices.Clone(l), impl.Fent{Tag: 1, Mac: 1}, impl.Fent{Tag: 98, Mac: 7, Static: true}, impl.Fent{Tag: 99, Mac: 9999, Age: 4})
	kept := slices.Clone(room)
	var answer []impl.Fent
	for _, end := range []int{len(room), len(l)} {
		got := call(room[:len(l):end])
		answer = slices.Clone(got)
		whole := got[:cap(got)]
		for i := range whole {
			whole[i] = impl.Fent{Tag: -7, Mac: -7, Port: -7, Age: -7, Static: true}
		}
		if !slices.Equal(room, kept) {
			t.Fatalf("%+v was written: %+v", kept, room)
		}
	}
	return answer
}

func isLearned(t *testing.T, l []impl.Fent, tag int, mac int, port int) {
	t.Helper()
	got := calledOn(t, l, func(l []impl.Fent) []impl.Fent { return impl.Learn(l, tag, mac, port) })
	if want := wantLearn(l, tag, mac, port); !slices.Equal(got, want) {
		t.Errorf("Learn(%+v, %d, %d, %d) = %+v; want %+v", l, tag, mac, port, got, want)
	}
}

func isAged(t *testing.T, l []impl.Fent) {
	t.Helper()
	got := calledOn(t, l, impl.AgeAll)
	if want := wantAged(l); !slices.Equal(got, want) {
		t.Errorf("AgeAll(%+v) = %+v; want %+v", l, got, want)
	}
}

func isFlushed(t *testing.T, l []impl.Fent, port int) {
	t.Helper()
	got := calledOn(t, l, func(l []impl.Fent) []impl.Fent { return impl.FlushPort(l, port) })
	if want := wantFlushed(l, port); !slices.Equal(got, want) {
		t.Errorf("FlushPort(%+v, %d) = %+v; want %+v", l, port, got, want)
	}
}

func isSet(t *testing.T, l []impl.Fent, tag int, mac int, port int) {
	t.Helper()
	var ok bool
	got := calledOn(t, l, func(l []impl.Fent) (x []impl.Fent) {
		x, ok = impl.SetStatic(l, tag, mac, port)
		return x
	})
	if want, wantOk := wantStatic(l, tag, mac, port); ok != wantOk || !slices.Equal(got, want) {
		t.Errorf("SetStatic(%+v, %d, %d, %d) = %+v, %v; want %+v, %v", l, tag, mac, port, got, ok, want, wantOk)
	}
}

func isDropped(t *testing.T, l []impl.Fent, tag int, mac int) {
	t.Helper()
	var ok bool
	got := calledOn(t, l, func(l []impl.Fent) (x []impl.Fent) {
		x, ok = impl.DropStatic(l, tag, mac)
		return x
	})
	if want, wantOk := wantDropped(l, tag, mac); ok != wantOk || !slices.Equal(got, want) {
		t.Errorf("DropStatic(%+v, %d, %d) = %+v, %v; want %+v, %v", l, tag, mac, got, ok, want, wantOk)
	}
}

// isFound wants LookUp and NextEnt to answer as told.
func isFound(t *testing.T, l []impl.Fent, tag int, mac int) {
	t.Helper()
	var port, next int
	calledOn(t, l, func(l []impl.Fent) []impl.Fent {
		port, next = impl.LookUp(l, tag, mac), impl.NextEnt(l, tag, mac)
		return nil
	})
	if want := wantLookUp(l, tag, mac); port != want {
		t.Errorf("LookUp(%+v, %d, %d) = %d; want %d", l, tag, mac, port, want)
	}
	if want := wantNext(l, tag, mac); next != want {
		t.Errorf("NextEnt(%+v, %d, %d) = %d; want %d", l, tag, mac, next, want)
	}
}

// isAsTold wants everything that can be asked of l at this Tag, Mac and Port as the document says it.
func isAsTold(t *testing.T, l []impl.Fent, tag int, mac int, port int) {
	t.Helper()
	if ok, want := impl.FdbOk(l), rightFdb(l); ok != want {
		t.Errorf("FdbOk(%+v) = %v", l, ok)
	}
	isFound(t, l, tag, mac)
	isLearned(t, l, tag, mac, port)
	isAged(t, l)
	isFlushed(t, l, port)
	isSet(t, l, tag, mac, port)
	isDropped(t, l, tag, mac)
}

// isRefused wants Learn and SetStatic to answer l as it is, where they are handed a right entry.
func isRefused(t *testing.T, l []impl.Fent, tag int, mac int, port int) {
	t.Helper()
	if x := impl.Learn(l, tag, mac, port); !slices.Equal(x, l) {
		t.Errorf("Learn(%+v, %d, %d, %d) = %+v; want it as it is", l, tag, mac, port, x)
	}
	if x, ok := impl.SetStatic(l, tag, mac, port); ok || !slices.Equal(x, l) {
		t.Errorf("SetStatic(%+v, %d, %d, %d) = %+v, %v; want it as it is, false", l, tag, mac, port, x, ok)
	}
}

// noFdb wants a list that is not right to be refused, and all else that is asked of it to be told entry by entry.
func noFdb(t *testing.T, l []impl.Fent) {
	t.Helper()
	if impl.FdbOk(l) || rightFdb(l) {
		t.Errorf("FdbOk(%+v) = true", l)
	}
	isRefused(t, l, 1, 1, 0)
	isRefused(t, l, 50, 5000, 3)
	isRefused(t, l, 99, 9999, 7)
	for _, e := range l {
		isRefused(t, l, e.Tag, e.Mac, 3)
		isAsTold(t, l, e.Tag, e.Mac, e.Port)
		isAsTold(t, l, e.Tag, e.Mac, 3)
	}
}

// fullFdb has twelve entries, two of each Tag from 10 on by tens, with all ports and ages, and room between.
func fullFdb() []impl.Fent {
	var l []impl.Fent
	for i := range 12 {
		e := impl.Fent{Tag: 10 + 10*(i/2), Mac: 100 + 100*(i%2), Port: i % 8, Age: i % 5}
		if i%4 == 3 {
			e.Age, e.Static = 0, true
		}
		l = append(l, e)
	}
	return l
}

func TestFdbConstants(t *testing.T) {
	if impl.MaxFdb != 12 || impl.MaxAge != 5 {
		t.Errorf("MaxFdb = %d, MaxAge = %d", impl.MaxFdb, impl.MaxAge)
	}
}

func TestLearnedAsWrittenOut(t *testing.T) {
	l := impl.Learn(nil, 5, 50, 3)
	l = impl.Learn(l, 7, 20, 0)
	l = impl.Learn(l, 5, 40, 1)
	l = impl.Learn(l, 5, 60, 7)
	l = impl.Learn(l, 2, 9999, 2)
	want := []impl.Fent{{Tag: 2, Mac: 9999, Port: 2}, {Tag: 5, Mac: 40, Port: 1}, {Tag: 5, Mac: 50, Port: 3}, {Tag: 5, Mac: 60, Port: 7}, {Tag: 7, Mac: 20}}
	if !slices.Equal(l, want) || !impl.FdbOk(l) {
		t.Fatalf("%+v; want %+v", l, want)
	}
	for _, c := range [][3]int{{2, 9999, 2}, {5, 40, 1}, {5, 50, 3}, {5, 60, 7}, {7, 20, 0}, {7, 40, -1}, {2, 40, -1}, {5, 9999, -1}, {5, 20, -1}, {6, 50, -1}, {0, 0, -1}} {
		if port := impl.LookUp(l, c[0], c[1]); port != c[2] {
			t.Errorf("LookUp of %d and %d = %d; want %d", c[0], c[1], port, c[2])
		}
	}
	for _, c := range [][3]int{{0, 0, 0}, {1, 9999, 0}, {2, 9998, 0}, {2, 9999, 1}, {4, 1, 1}, {5, 39, 1}, {5, 40, 2}, {5, 49, 2}, {5, 50, 3}, {5, 60, 4}, {6, 1, 4}, {7, 19, 4}, {7, 20, -1}, {8, 0, -1}} {
		if at := impl.NextEnt(l, c[0], c[1]); at != c[2] {
			t.Errorf("NextEnt of %d and %d = %d; want %d", c[0], c[1], at, c[2])
		}
	}
}

func TestFdbWithoutEntries(t *testing.T) {
	for _, l := range [][]impl.Fent{nil, {}, make([]impl.Fent, 0, 5)} {
		if !impl.FdbOk(l) {
			t.Error("FdbOk of nothing = false")
		}
		if impl.LookUp(l, 1, 1) != -1 || impl.LookUp(l, 0, 0) != -1 || impl.NextEnt(l, 0, 0) != -1 || impl.NextEnt(l, math.MinInt, math.MinInt) != -1 {
			t.Error("something is found in nothing")
		}
		if x := impl.AgeAll(l); len(x) != 0 {
			t.Errorf("AgeAll of nothing = %+v", x)
		}
		if x := impl.FlushPort(l, 0); len(x) != 0 {
			t.Errorf("FlushPort of nothing = %+v", x)
		}
		if x, ok := impl.DropStatic(l, 1, 1); ok || len(x) != 0 {
			t.Errorf("DropStatic of nothing = %+v, %v", x, ok)
		}
		isAsTold(t, l, 1, 1, 0)
		isAsTold(t, l, 99, 9999, 7)
		isRefused(t, l, 0, 0, 0)
	}
}

func TestWhoIsLearnedIsThere(t *testing.T) {
	for _, tag := range []int{1, 2, 50, 98, 99} {
		for _, mac := range []int{1, 2, 300, 9998, 9999} {
			for port := range 8 {
				for _, l := range [][]impl.Fent{nil, fullFdb()[:1], fullFdb()[:7], fullFdb()[:11]} {
					x := impl.Learn(l, tag, mac, port)
					if impl.LookUp(x, tag, mac) != port || len(x) != len(l)+1 || !impl.FdbOk(x) {
						t.Errorf("Learn(%+v, %d, %d, %d) = %+v", l, tag, mac, port, x)
					}
					isLearned(t, l, tag, mac, port)
					isSet(t, l, tag, mac, port)
				}
			}
		}
	}
}

// One that is learned comes ahead of all, behind all, or between any two.
func TestWhoIsLearnedComesInItsPlace(t *testing.T) {
	full := fullFdb()
	for size := range 12 {
		l := full[:size]
		for _, tag := range []int{1, 9, 10, 11, 19, 20, 35, 40, 60, 61, 99} {
			for _, mac := range []int{1, 99, 101, 150, 199, 201, 9999} {
				isAsTold(t, l, tag, mac, 5)
				x := impl.Learn(l, tag, mac, 5)
				if len(x) != size+1 || !rightFdb(x) {
					t.Errorf("Learn(%+v, %d, %d, 5) = %+v", l, tag, mac, x)
				}
			}
		}
	}
}

func TestOrderOfLearningDoesNotCount(t *testing.T) {
	var all [][2]int
	for _, tag := range []int{1, 2, 99} {
		for _, mac := range []int{1, 2, 500, 9999} {
			all = append(all, [2]int{tag, mac})
		}
	}
	var want []impl.Fent
	for _, both := range all {
		want = append(want, impl.Fent{Tag: both[0], Mac: both[1], Port: both[1] % 8})
	}
	for _, stride := range []int{1, 5, 7, 11} {
		for start := range all {
			var l []impl.Fent
			for i := range all {
				both := all[(start+i*stride)%len(all)]
				l = impl.Learn(l, both[0], both[1], both[1]%8)
			}
			if !slices.Equal(l, want) {
				t.Errorf("by %d from %d: %+v", stride, start, l)
			}
		}
	}
}

// The same Tag with another Mac, and the same Mac with another Tag, is another one.
func TestOneIsToldByBothTagAndMac(t *testing.T) {
	l := []impl.Fent{{Tag: 3, Mac: 4, Port: 1, Age: 2}}
	for _, both := range [][2]int{{3, 3}, {3, 5}, {2, 4}, {4, 4}, {4, 3}} {
		if impl.LookUp(l, both[0], both[1]) != -1 {
			t.Errorf("%v is taken for 3 and 4", both)
		}
		isAsTold(t, l, both[0], both[1], 6)
		x := impl.Learn(l, both[0], both[1], 6)
		y, ok := impl.SetStatic(l, both[0], both[1], 6)
		if len(x) != 2 || len(y) != 2 || !ok || impl.LookUp(x, 3, 4) != 1 || impl.LookUp(x, both[0], both[1]) != 6 || !slices.Contains(x, l[0]) || !slices.Contains(y, l[0]) {
			t.Errorf("beside %v: %+v, %+v", both, x, y)
		}
		if z, ok := impl.DropStatic(y, 3, 4); ok || !slices.Equal(z, y) {
			t.Errorf("DropStatic of 3 and 4 took %v: %+v", both, z)
		}
		if z, ok := impl.DropStatic(y, both[0], both[1]); !ok || !slices.Equal(z, l) {
			t.Errorf("DropStatic of %v: %+v, %v", both, z, ok)
		}
	}
}

func TestWhoIsLearnedAnewHasItsNewPort(t *testing.T) {
	full := fullFdb()
	for at, e := range full {
		for port := range 8 {
			isAsTold(t, full, e.Tag, e.Mac, port)
			x := impl.Learn(full, e.Tag, e.Mac, port)
			want := slices.Clone(full)
			if !e.Static {
				want[at].Port, want[at].Age = port, 0
			}
			if !slices.Equal(x, want) {
				t.Errorf("Learn of the place %d at %d: %+v; want %+v", at, port, x, want)
			}
		}
	}
	for age := range 5 {
		l := []impl.Fent{{Tag: 1, Mac: 2, Port: 3, Age: age}}
		for port := range 8 {
			if x := impl.Learn(l, 1, 2, port); !slices.Equal(x, []impl.Fent{{Tag: 1, Mac: 2, Port: port}}) {
				t.Errorf("Learn(%+v, 1, 2, %d) = %+v", l, port, x)
			}
		}
	}
}

func TestWhoIsOldIsGone(t *testing.T) {
	l := impl.Learn(nil, 1, 2, 3)
	for tick := range 4 {
		l = impl.AgeAll(l)
		if !slices.Equal(l, []impl.Fent{{Tag: 1, Mac: 2, Port: 3, Age: tick + 1}}) {
			t.Errorf("behind %d ticks: %+v", tick+1, l)
		}
	}
	if l = impl.AgeAll(l); len(l) != 0 {
		t.Errorf("behind 5 ticks: %+v", l)
	}
}

// One that is heard anew each fourth tick stays; one that is not is gone by the fifth.
func TestWhoIsHeardAgainStays(t *testing.T) {
	l := impl.Learn(impl.Learn(impl.Learn(nil, 1, 1, 0), 1, 2, 0), 1, 3, 0)
	for tick := 1; tick <= 40; tick++ {
		l = impl.AgeAll(l)
		if tick%4 == 0 {
			l = impl.Learn(l, 1, 2, tick%8)
		}
		if impl.LookUp(l, 1, 2) == -1 || (impl.LookUp(l, 1, 1) == -1) != (tick >= 5) || (impl.LookUp(l, 1, 3) == -1) != (tick >= 5) {
			t.Fatalf("behind %d ticks: %+v", tick, l)
		}
	}
}

func TestWhoIsStaticDoesNotAge(t *testing.T) {
	l, ok := impl.SetStatic(impl.Learn(nil, 1, 1, 0), 1, 2, 3)
	for tick := 1; tick <= 30; tick++ {
		l = impl.AgeAll(l)
		if at := placeOf(l, 1, 2); !ok || at < 0 || l[at] != (impl.Fent{Tag: 1, Mac: 2, Port: 3, Static: true}) || len(l) == 2 != (tick < 5) {
			t.Fatalf("behind %d ticks: %+v", tick, l)
		}
	}
}

func TestAgesAtTheirEnds(t *testing.T) {
	l := []impl.Fent{{Tag: 1, Mac: 1, Age: 4}, {Tag: 1, Mac: 2, Age: 3}, {Tag: 1, Mac: 3}, {Tag: 1, Mac: 4, Static: true}, {Tag: 1, Mac: 5, Age: 4}}
	want := []impl.Fent{{Tag: 1, Mac: 2, Age: 4}, {Tag: 1, Mac: 3, Age: 1}, {Tag: 1, Mac: 4, Static: true}}
	if x := impl.AgeAll(l); !slices.Equal(x, want) {
		t.Errorf("%+v", x)
	}
	isAged(t, l)
	isAged(t, fullFdb())
}

// Ages that are none are one more, too, or go; no age comes back from the other end.
func TestAgesOutOfTheirRange(t *testing.T) {
	for _, age := range []int{-1, -2, -5, -6, math.MinInt, math.MinInt + 1, math.MinInt32} {
		l := []impl.Fent{{Tag: 1, Mac: 1, Age: age}, {Tag: 1, Mac: 2, Age: 1}}
		if x := impl.AgeAll(l); !slices.Equal(x, []impl.Fent{{Tag: 1, Mac: 1, Age: age + 1}, {Tag: 1, Mac: 2, Age: 2}}) {
			t.Errorf("AgeAll(%+v) = %+v", l, x)
		}
		noFdb(t, l)
	}
	for _, age := range []int{5, 6, 100, math.MaxInt32, math.MaxInt - 1, math.MaxInt} {
		l := []impl.Fent{{Tag: 1, Mac: 1, Age: age}, {Tag: 1, Mac: 2, Age: 1}}
		if x := impl.AgeAll(l); !slices.Equal(x, []impl.Fent{{Tag: 1, Mac: 2, Age: 2}}) {
			t.Errorf("AgeAll(%+v) = %+v", l, x)
		}
		noFdb(t, l)
	}
	for _, age := range []int{-1, 1, 4, 5, math.MaxInt, math.MinInt} {
		l := []impl.Fent{{Tag: 1, Mac: 1, Port: 2, Age: age, Static: true}}
		if x := impl.AgeAll(l); !slices.Equal(x, l) {
			t.Errorf("AgeAll(%+v) = %+v", l, x)
		}
		if x := impl.FlushPort(l, 2); !slices.Equal(x, l) {
			t.Errorf("FlushPort(%+v, 2) = %+v", l, x)
		}
		if x, ok := impl.DropStatic(l, 1, 1); !ok || len(x) != 0 {
			t.Errorf("DropStatic(%+v, 1, 1) = %+v, %v", l, x, ok)
		}
		noFdb(t, l)
	}
}

func TestThoseOfAPortGo(t *testing.T) {
	l := []impl.Fent{{Tag: 1, Mac: 1, Port: 2, Age: 4}, {Tag: 1, Mac: 2, Port: 3}, {Tag: 1, Mac: 3, Port: 2, Static: true}, {Tag: 2, Mac: 1, Port: 2}, {Tag: 2, Mac: 2, Port: 3, Static: true}, {Tag: 3, Mac: 1, Port: 0}}
	for _, c := range []struct {
		port int
		left []impl.Fent
	}{
		{2, []impl.Fent{l[1], l[2], l[4], l[5]}},
		{3, []impl.Fent{l[0], l[2], l[3], l[4], l[5]}},
		{0, l[:5]},
		{1, l},
		{7, l},
		{8, l},
		{-1, l},
		{math.MaxInt, l},
		{math.MinInt, l},
	} {
		if x := impl.FlushPort(l, c.port); !slices.Equal(x, c.left) {
			t.Errorf("FlushPort of %d: %+v; want %+v", c.port, x, c.left)
		}
		isFlushed(t, l, c.port)
	}
	for port := -1; port < 10; port++ {
		isFlushed(t, fullFdb(), port)
		if x := impl.FlushPort([]impl.Fent{{Tag: 1, Mac: 1, Port: port}, {Tag: 1, Mac: 2, Port: port, Static: true}}, port); len(x) != 1 || !x[0].Static {
			t.Errorf("FlushPort of %d: %+v", port, x)
		}
	}
}

func TestStaticIsSetLearnedElsewhereAndDropped(t *testing.T) {
	others := []impl.Fent{{Tag: 1, Mac: 5, Port: 1, Age: 2}, {Tag: 3, Mac: 5, Port: 1, Static: true}}
	for _, l := range [][]impl.Fent{others, {others[0], {Tag: 2, Mac: 5, Port: 6, Age: 3}, others[1]}, {others[0], {Tag: 2, Mac: 5, Port: 6, Static: true}, others[1]}} {
		set, ok := impl.SetStatic(l, 2, 5, 4)
		want := []impl.Fent{others[0], {Tag: 2, Mac: 5, Port: 4, Static: true}, others[1]}
		if !ok || !slices.Equal(set, want) {
			t.Fatalf("SetStatic(%+v, 2, 5, 4) = %+v, %v", l, set, ok)
		}
		for port := range 8 {
			if x := impl.Learn(set, 2, 5, port); !slices.Equal(x, want) {
				t.Errorf("Learn at %d: %+v", port, x)
			}
			isFlushed(t, set, port)
		}
		moved, ok := impl.SetStatic(set, 2, 5, 7)
		if !ok || impl.LookUp(moved, 2, 5) != 7 || len(moved) != 3 {
			t.Errorf("SetStatic anew: %+v, %v", moved, ok)
		}
		dropped, ok := impl.DropStatic(moved, 2, 5)
		if !ok || !slices.Equal(dropped, others) || impl.LookUp(dropped, 2, 5) != -1 {
			t.Errorf("DropStatic: %+v, %v", dropped, ok)
		}
		if x, ok := impl.DropStatic(dropped, 2, 5); ok || !slices.Equal(x, others) {
			t.Errorf("DropStatic twice: %+v, %v", x, ok)
		}
		if x := impl.Learn(dropped, 2, 5, 3); impl.LookUp(x, 2, 5) != 3 || len(x) != 3 || x[1].Static {
			t.Errorf("learned behind it: %+v", x)
		}
	}
}

func TestDropStaticWhereThereIsNone(t *testing.T) {
	full := fullFdb()
	for at, e := range full {
		x, ok := impl.DropStatic(full, e.Tag, e.Mac)
		if ok != e.Static || ok && !slices.Equal(x, slices.Concat(full[:at], full[at+1:])) || !ok && !slices.Equal(x, full) {
			t.Errorf("DropStatic of the place %d: %+v, %v", at, x, ok)
		}
		isDropped(t, full, e.Tag, e.Mac)
		isDropped(t, full, e.Tag, e.Mac+1)
		isDropped(t, full, e.Tag+1, e.Mac)
	}
	for _, both := range [][2]int{{0, 0}, {0, 200}, {20, 0}, {20, -200}, {-20, 200}, {100, 10000}, {math.MaxInt, math.MaxInt}, {math.MinInt, math.MinInt}} {
		if x, ok := impl.DropStatic(full, both[0], both[1]); ok || !slices.Equal(x, full) {
			t.Errorf("DropStatic of %v: %+v, %v", both, x, ok)
		}
	}
}

func TestNextBehindEach(t *testing.T) {
	full := fullFdb()
	for at, e := range full {
		want := at + 1
		if want == len(full) {
			want = -1
		}
		if next := impl.NextEnt(full, e.Tag, e.Mac); next != want {
			t.Errorf("NextEnt behind the place %d = %d", at, next)
		}
		if next := impl.NextEnt(full, e.Tag, e.Mac-1); next != at {
			t.Errorf("NextEnt ahead of the place %d = %d", at, next)
		}
		if next := impl.NextEnt(full, e.Tag, math.MinInt); next != at/2*2 {
			t.Errorf("NextEnt ahead of the Tag %d = %d", e.Tag, next)
		}
		isFound(t, full, e.Tag, math.MaxInt)
		isFound(t, full, e.Tag-1, math.MaxInt)
	}
	if impl.NextEnt(full, math.MinInt, math.MaxInt) != 0 || impl.NextEnt(full, math.MaxInt, math.MinInt) != -1 || impl.NextEnt(full, 0, 0) != 0 {
		t.Error("past the ends")
	}
}

// By asking for the next each is told once, in order.
func TestAllAreToldByTheNext(t *testing.T) {
	full := fullFdb()
	tag, mac := 0, 0
	for at := range full {
		next := impl.NextEnt(full, tag, mac)
		if next != at {
			t.Fatalf("NextEnt(%d, %d) = %d; want %d", tag, mac, next, at)
		}
		tag, mac = full[next].Tag, full[next].Mac
	}
	if next := impl.NextEnt(full, tag, mac); next != -1 {
		t.Errorf("behind all: %d", next)
	}
}

func TestJustAsManyAsThereMayBe(t *testing.T) {
	full := fullFdb()
	if !impl.FdbOk(full) || !impl.FdbOk(full[:11]) {
		t.Fatal("FdbOk of twelve = false")
	}
	for _, both := range [][2]int{{1, 1}, {10, 99}, {10, 101}, {35, 5000}, {60, 199}, {60, 201}, {99, 9999}} {
		if x := impl.Learn(full, both[0], both[1], 2); !slices.Equal(x, full) {
			t.Errorf("Learn of %v beside twelve: %+v", both, x)
		}
		if x, ok := impl.SetStatic(full, both[0], both[1], 2); ok || !slices.Equal(x, full) {
			t.Errorf("SetStatic of %v beside twelve: %+v, %v", both, x, ok)
		}
		if x, ok := impl.SetStatic(full[1:], both[0], both[1], 2); !ok || len(x) != 12 || !impl.FdbOk(x) {
			t.Errorf("SetStatic of %v beside eleven: %+v, %v", both, x, ok)
		}
		isAsTold(t, full, both[0], both[1], 2)
		isAsTold(t, full[1:], both[0], both[1], 2)
	}
	for at, e := range full {
		x, ok := impl.SetStatic(full, e.Tag, e.Mac, 6)
		want := slices.Clone(full)
		want[at] = impl.Fent{Tag: e.Tag, Mac: e.Mac, Port: 6, Static: true}
		if !ok || !slices.Equal(x, want) {
			t.Errorf("SetStatic of one of twelve: %+v, %v", x, ok)
		}
		if x, ok = impl.DropStatic(x, e.Tag, e.Mac); !ok || len(x) != 11 || len(impl.Learn(x, 99, 99, 1)) != 12 {
			t.Errorf("no room behind DropStatic: %+v, %v", x, ok)
		}
	}
}

func TestOneMoreThanThereMayBe(t *testing.T) {
	for more := 1; more <= 20; more++ {
		l := fullFdb()
		for i := range more {
			l = append(l, impl.Fent{Tag: 70, Mac: 1 + i, Port: 1, Age: i % 5})
		}
		noFdb(t, l)
		noFdb(t, l[:13])
		isRefused(t, l, 70, 5000, 2)
	}
	if full := fullFdb(); !impl.FdbOk(full) {
		t.Errorf("FdbOk(%+v) = false", full)
	}
}

// Each number at its ends, and past them, alone and ahead of another one, and behind.
func TestNumbersOfEntriesAtTheirEnds(t *testing.T) {
	for _, field := range fentFields() {
		for _, beside := range []impl.Fent{{Tag: 1, Mac: 1}, {Tag: 50, Mac: 300, Port: 3, Age: 2}, {Tag: 99, Mac: 9999, Port: 7, Age: 4}} {
			e := beside
			for n := field.least; n <= field.most; n += max(1, (field.most-field.least)/98) {
				field.set(&e, n)
				if !impl.FdbOk([]impl.Fent{e}) {
					t.Errorf("FdbOk of %+v = false", e)
				}
				isAsTold(t, []impl.Fent{e}, e.Tag, e.Mac, 3)
			}
			for _, n := range []int{field.least - 1, field.least - 2, -field.most, field.most + 1, field.most + 2, field.most + 256, 1<<32 + 1, -(1 << 32) + 1, math.MaxInt32, math.MinInt32, math.MaxInt, math.MinInt} {
				if n >= field.least && n <= field.most {
					continue
				}
				field.set(&e, n)
				noFdb(t, []impl.Fent{e})
				noFdb(t, []impl.Fent{{Tag: 1, Mac: 1}, e})
				noFdb(t, []impl.Fent{e, {Tag: 99, Mac: 9999}})
				noFdb(t, append(fullFdb()[:11], e))
			}
		}
	}
}

func TestStaticOnesAreNotOld(t *testing.T) {
	for age := -1; age <= 6; age++ {
		e := impl.Fent{Tag: 1, Mac: 2, Port: 3, Age: age, Static: true}
		if ok := impl.FdbOk([]impl.Fent{e}); ok != (age == 0) {
			t.Errorf("FdbOk of %+v = %v", e, ok)
		}
		e.Static = false
		if ok := impl.FdbOk([]impl.Fent{e}); ok != (age >= 0 && age <= 4) {
			t.Errorf("FdbOk of %+v = %v", e, ok)
		}
	}
}

func TestEntriesThatDoNotRise(t *testing.T) {
	a, b, c := impl.Fent{Tag: 1, Mac: 9, Port: 1}, impl.Fent{Tag: 2, Mac: 3, Port: 2, Age: 4}, impl.Fent{Tag: 2, Mac: 4, Port: 3, Static: true}
	if !impl.FdbOk([]impl.Fent{a, b, c}) {
		t.Error("FdbOk of what rises = false")
	}
	for _, l := range [][]impl.Fent{{a, c, b}, {b, a, c}, {b, c, a}, {c, a, b}, {c, b, a}, {b, a}, {c, b}, {c, a}} {
		noFdb(t, l)
		for tag := range 4 {
			for mac := range 11 {
				isFound(t, l, tag, mac)
			}
		}
	}
	if x := impl.AgeAll([]impl.Fent{c, b, a}); !slices.Equal(x, []impl.Fent{c, {Tag: 1, Mac: 9, Port: 1, Age: 1}}) {
		t.Errorf("AgeAll turned the order: %+v", x)
	}
	if x := impl.FlushPort([]impl.Fent{c, b, a}, 2); !slices.Equal(x, []impl.Fent{c, a}) {
		t.Errorf("FlushPort turned the order: %+v", x)
	}
	if x, ok := impl.DropStatic([]impl.Fent{b, c, a}, 2, 4); !ok || !slices.Equal(x, []impl.Fent{b, a}) {
		t.Errorf("DropStatic turned the order: %+v, %v", x, ok)
	}
	if at := impl.NextEnt([]impl.Fent{c, b, a}, 1, 9); at != 0 {
		t.Errorf("NextEnt takes not the first in the list: %d", at)
	}
}

// Of two of both each stays or goes by itself; the first is found, and the first static one is dropped.
func TestTwoOfBoth(t *testing.T) {
	old := impl.Fent{Tag: 1, Mac: 2, Port: 3, Age: 4}
	young := impl.Fent{Tag: 1, Mac: 2, Port: 5, Age: 1}
	fixed := impl.Fent{Tag: 1, Mac: 2, Port: 6, Static: true}
	other := impl.Fent{Tag: 1, Mac: 1, Port: 3}
	all := []impl.Fent{old, young, fixed, {Tag: 1, Mac: 2, Port: 7, Static: true}, other}
	for _, a := range all[:4] {
		for _, b := range all[:4] {
			for _, l := range [][]impl.Fent{{a, b}, {other, a, b}, {a, other, b}, {a, b, b}, {a, b, a}, {a, other, b, other, a}} {
				noFdb(t, l)
				isFlushed(t, l, 3)
				isFlushed(t, l, 5)
			}
		}
	}
	if x := impl.AgeAll([]impl.Fent{young, old, young, old, fixed}); !slices.Equal(x, []impl.Fent{{Tag: 1, Mac: 2, Port: 5, Age: 2}, {Tag: 1, Mac: 2, Port: 5, Age: 2}, fixed}) {
		t.Errorf("AgeAll: %+v", x)
	}
	if x := impl.FlushPort([]impl.Fent{young, old, old, young}, 3); !slices.Equal(x, []impl.Fent{young, young}) {
		t.Errorf("FlushPort: %+v", x)
	}
	if x, ok := impl.DropStatic([]impl.Fent{young, all[3], old, fixed, fixed}, 1, 2); !ok || !slices.Equal(x, []impl.Fent{young, old, fixed, fixed}) {
		t.Errorf("DropStatic: %+v, %v", x, ok)
	}
	if port := impl.LookUp([]impl.Fent{other, old, young}, 1, 2); port != 3 {
		t.Errorf("LookUp: %d", port)
	}
}

// What would be no entry is not learned nor set, whatever list it would come to.
func TestTagMacOrPortOutOfItsRange(t *testing.T) {
	for _, l := range [][]impl.Fent{nil, {{Tag: 1, Mac: 1, Port: 1, Age: 1}}, {{Tag: 99, Mac: 9999, Port: 7, Static: true}}, fullFdb()[:6], fullFdb()} {
		for _, n := range []int{-1, -2, -99, 100, 101, 256, 1<<32 + 1, math.MaxInt, math.MinInt, 0} {
			isRefused(t, l, n, 1, 1)
			isAsTold(t, l, n, 1, 1)
		}
		for _, n := range []int{0, -1, -9999, 10000, 10001, 65537, 1<<32 + 1, math.MaxInt, math.MinInt} {
			isRefused(t, l, 1, n, 1)
			isAsTold(t, l, 1, n, 1)
		}
		for _, n := range []int{-1, -2, 8, 9, 256, 1 << 32, math.MaxInt, math.MinInt} {
			isRefused(t, l, 1, 1, n)
			isRefused(t, l, 99, 9999, n)
			isAsTold(t, l, 1, 1, n)
		}
		isRefused(t, l, 0, 0, -1)
		isRefused(t, l, 100, 10000, 8)
	}
}

// smallFents are right ones that meet in Tag, Mac and Port, and some that are not right.
func smallFents() []impl.Fent {
	all := []impl.Fent{{}, {Tag: 1, Mac: 1, Age: 5}, {Tag: 1, Mac: 2, Age: 1, Static: true}}
	for _, both := range [][2]int{{1, 1}, {1, 2}, {2, 1}} {
		for port := range 2 {
			all = append(all, impl.Fent{Tag: both[0], Mac: both[1], Port: port, Age: 4 * port})
			all = append(all, impl.Fent{Tag: both[0], Mac: both[1], Port: port, Static: true})
		}
	}
	return all
}

func TestAllSmallLists(t *testing.T) {
	ask := func(l []impl.Fent) {
		for _, both := range [][2]int{{0, 0}, {1, 1}, {1, 2}, {2, 1}} {
			isAsTold(t, l, both[0], both[1], 1)
		}
	}
	for _, a := range smallFents() {
		ask([]impl.Fent{a})
		for _, b := range smallFents() {
			ask([]impl.Fent{a, b})
			for _, c := range smallFents() {
				ask([]impl.Fent{a, b, c})
			}
		}
	}
}

// Whatever is done one behind the other, the list stays right and is the document's.
func TestManyDeedsInARow(t *testing.T) {
	state := uint32(1)
	draw := func(n int) int {
		state = state*1664525 + 1013904223
		return int(state>>16) % n
	}
	var l []impl.Fent
	for deed := range 20000 {
		tag, mac, port := 1+draw(3), 1+draw(6), draw(8)
		var got, want []impl.Fent
		ok, wantOk := true, true
		switch draw(12) {
		case 0:
			got, want = impl.AgeAll(l), wantAged(l)
		case 1:
			got, want = impl.FlushPort(l, port), wantFlushed(l, port)
		case 2:
			got, ok = impl.SetStatic(l, tag, mac, port)
			want, wantOk = wantStatic(l, tag, mac, port)
		case 3:
			got, ok = impl.DropStatic(l, tag, mac)
			want, wantOk = wantDropped(l, tag, mac)
		default:
			got, want = impl.Learn(l, tag, mac, port), wantLearn(l, tag, mac, port)
		}
		if !slices.Equal(got, want) || ok != wantOk || !impl.FdbOk(got) {
			t.Fatalf("deed %d on %+v: %+v, %v; want %+v, %v", deed, l, got, ok, want, wantOk)
		}
		l = got
		isFound(t, l, tag, mac)
	}
}

// A map is gone through in another order each time: no answer may show it.
func TestAnswersAreTheSameEachTime(t *testing.T) {
	l := append(fullFdb(), fullFdb()...)
	for range 200 {
		isAged(t, l)
		isFlushed(t, l, 3)
		isDropped(t, l, 20, 200)
		isLearned(t, fullFdb()[:8], 15, 15, 1)
		isSet(t, fullFdb()[:8], 15, 15, 1)
	}
}

func TestListsThatAreFarTooLong(t *testing.T) {
	l := make([]impl.Fent, 100000)
	for i := range l {
		l[i] = impl.Fent{Tag: 1, Mac: 1, Port: i % 2, Age: i % 6, Static: i == 99999}
	}
	isAsTold(t, l, 1, 1, 1)
	isAsTold(t, l, 1, 0, 0)
	isAsTold(t, l, 2, 1, 2)
}

func TestEntriesThatAreRefusedLeaveNothingBehind(t *testing.T) {
	wrong := []impl.Fent{{Tag: 2, Mac: 2}, {Tag: 1, Mac: 1}}
	for range 3 {
		isRefused(t, wrong, 3, 3, 3)
		isRefused(t, nil, 3, 3, 8)
		isAsTold(t, nil, 3, 3, 3)
		isAsTold(t, fullFdb(), 10, 100, 3)
		if impl.LookUp(nil, 3, 3) != -1 {
			t.Error("something was kept")
		}
	}
}

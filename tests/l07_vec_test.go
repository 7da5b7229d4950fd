package tests

import (
	"bytes"
	"math"
	"slices"
	"strings"
	"testing"

	"loop.example/g00326/impl"
)

// wantVec is the document's form of a vector, also of one that is not right.
func wantVec(v impl.Vec) []byte {
	return slices.Concat(number(v.Root), number(v.Cost), number(v.Hops), number(v.Bridge), number(v.Port))
}

// isVec wants v to have just the document's bytes, and to come back of them, every field.
func isVec(t *testing.T, v impl.Vec) {
	t.Helper()
	if !impl.VecOk(v) {
		t.Errorf("VecOk(%+v) = false", v)
	}
	want := wantVec(v)
	if b := impl.PutVec(v); !bytes.Equal(b, want) {
		t.Errorf("PutVec(%+v) = %x; want %x", v, b, want)
	}
	if back, ok := impl.GetVec(want); !ok || back != v {
		t.Errorf("GetVec(%x) = %+v, %v; want %+v, true", want, back, ok, v)
	}
}

func noVecBytes(t *testing.T, b []byte) {
	t.Helper()
	if v, ok := impl.GetVec(b); ok || v != (impl.Vec{}) {
		t.Errorf("GetVec(%x) = %+v, %v; want nothing", b, v, ok)
	}
}

func noStep(t *testing.T, v impl.Vec, cost int) {
	t.Helper()
	if x, ok := impl.StepVec(v, cost); ok || x != v {
		t.Errorf("StepVec(%+v, %d) = %+v, %v; want it as it is, false", v, cost, x, ok)
	}
}

// noPutVec wants no bytes of v, and no step from it.
func noPutVec(t *testing.T, v impl.Vec) {
	t.Helper()
	if impl.VecOk(v) {
		t.Errorf("VecOk(%+v) = true", v)
	}
	if b := impl.PutVec(v); len(b) != 0 {
		t.Errorf("PutVec(%+v) = %x; want nothing", v, b)
	}
	for _, cost := range []int{1, 7, 1000} {
		noStep(t, v, cost)
	}
}

// noVec wants moreover the bytes that v would have not to be read.
func noVec(t *testing.T, v impl.Vec) {
	t.Helper()
	noPutVec(t, v)
	noVecBytes(t, wantVec(v))
}

func isStep(t *testing.T, v impl.Vec, cost int) {
	t.Helper()
	want := impl.Vec{Root: v.Root, Cost: v.Cost + cost, Hops: v.Hops + 1, Bridge: v.Bridge, Port: v.Port}
	if x, ok := impl.StepVec(v, cost); !ok || x != want {
		t.Errorf("StepVec(%+v, %d) = %+v, %v; want %+v, true", v, cost, x, ok, want)
	}
	isVec(t, want)
}

// someVecs are right ones, each number at its ends and between; the root may be the one who says so, a less or a greater one.
func someVecs() []impl.Vec {
	var all []impl.Vec
	for _, root := range []int{1, 2, 50, 99} {
		for _, cost := range []int{0, 1, 127, 128, 300, 32767, 32768, 99999, 100000} {
			for _, hops := range []int{0, 1, 9, 10} {
				for _, bridge := range []int{1, 2, 50, 99} {
					for _, port := range []int{0, 1, 6, 7} {
						all = append(all, impl.Vec{Root: root, Cost: cost, Hops: hops, Bridge: bridge, Port: port})
					}
				}
			}
		}
	}
	return all
}

// vecFields are the numbers of a vector, with their ends.
func vecFields() []struct {
	name        string
	least, most int
	set         func(v *impl.Vec, n int)
} {
	return []struct {
		name        string
		least, most int
		set         func(v *impl.Vec, n int)
	}{
		{"Root", 1, 99, func(v *impl.Vec, n int) { v.Root = n }},
		{"Cost", 0, 100000, func(v *impl.Vec, n int) { v.Cost = n }},
		{"Hops", 0, 10, func(v *impl.Vec, n int) { v.Hops = n }},
		{"Bridge", 1, 99, func(v *impl.Vec, n int) { v.Bridge = n }},
		{"Port", 0, 7, func(v *impl.Vec, n int) { v.Port = n }},
	}
}

func TestVectorConstants(t *testing.T) {
	if impl.MaxCost != 100000 || impl.MaxHops != 10 {
		t.Errorf("MaxCost = %d, MaxHops = %d", impl.MaxCost, impl.MaxHops)
	}
}

func TestVectorsAsWrittenOut(t *testing.T) {
	for _, c := range []struct {
		form string
		v    impl.Vec
	}{
		{"\x02\x01\x01\x02\x01\x00\x02\x01\x00\x02\x01\x01\x02\x01\x00", impl.Vec{Root: 1, Bridge: 1}},
		{"\x02\x01\x01\x02\x01\x02\x02\x01\x03\x02\x01\x04\x02\x01\x05", impl.Vec{Root: 1, Cost: 2, Hops: 3, Bridge: 4, Port: 5}},
		{"\x02\x01\x05\x02\x01\x04\x02\x01\x03\x02\x01\x02\x02\x01\x01", impl.Vec{Root: 5, Cost: 4, Hops: 3, Bridge: 2, Port: 1}},
		{"\x02\x01\x01\x02\x01\x7f\x02\x01\x01\x02\x01\x02\x02\x01\x00", impl.Vec{Root: 1, Cost: 127, Hops: 1, Bridge: 2}},
		{"\x02\x01\x01\x02\x02\x00\x80\x02\x01\x01\x02\x01\x02\x02\x01\x00", impl.Vec{Root: 1, Cost: 128, Hops: 1, Bridge: 2}},
		{"\x02\x01\x01\x02\x02\x7f\xff\x02\x01\x01\x02\x01\x02\x02\x01\x00", impl.Vec{Root: 1, Cost: 32767, Hops: 1, Bridge: 2}},
		{"\x02\x01\x01\x02\x03\x00\x80\x00\x02\x01\x01\x02\x01\x02\x02\x01\x00", impl.Vec{Root: 1, Cost: 32768, Hops: 1, Bridge: 2}},
		{"\x02\x01\x63\x02\x03\x01\x86\xa0\x02\x01\x0a\x02\x01\x63\x02\x01\x07", impl.Vec{Root: 99, Cost: 100000, Hops: 10, Bridge: 99, Port: 7}},
	} {
		if b := impl.PutVec(c.v); string(b) != c.form {
			t.Errorf("PutVec(%+v) = %x; want %x", c.v, b, c.form)
		}
		if v, ok := impl.GetVec([]byte(c.form)); !ok || v != c.v {
			t.Errorf("GetVec(%x) = %+v, %v; want %+v", c.form, v, ok, c.v)
		}
	}
}

func TestVectorsComeBack(t *testing.T) {
	for _, v := range someVecs() {
		isVec(t, v)
	}
}

func TestEveryNumberOfAVectorComesBack(t *testing.T) {
	for _, field := range vecFields() {
		v := impl.Vec{Root: 3, Cost: 300, Hops: 4, Bridge: 5, Port: 6}
		for n := field.least; n <= field.most; n++ {
			field.set(&v, n)
			isVec(t, v)
		}
	}
}

// Each number at its ends, and past them, beside all others at their ends and between.
func TestNumbersOfVectorsAtTheirEnds(t *testing.T) {
	for _, beside := range []impl.Vec{
		{Root: 1, Bridge: 1},
		{Root: 3, Cost: 300, Hops: 4, Bridge: 5, Port: 6},
		{Root: 99, Cost: 100000, Hops: 10, Bridge: 99, Port: 7},
	} {
		for _, field := range vecFields() {
			v := beside
			for _, n := range []int{field.least, field.least + 1, field.most - 1, field.most} {
				field.set(&v, n)
				isVec(t, v)
			}
			strays := []int{-2, -100, -256, -65536, 65536*2 + 5, 1<<24 + 1, math.MaxInt32, math.MinInt32}
			for _, n := range append(strays, field.least-1, field.least-2, field.most+1, field.most+2, -field.most) {
				if n < field.least || n > field.most {
					field.set(&v, n)
					noVec(t, v)
				}
			}
			for _, n := range []int{1<<32 + 1, 1<<32 + 5, -(1 << 32) + 1, 1 << 40, math.MaxInt, math.MaxInt - 1, math.MinInt, math.MinInt + 1} {
				field.set(&v, n)
				noPutVec(t, v)
			}
		}
	}
}

func TestVectorsThatAreWrongInSeveralParts(t *testing.T) {
	noVec(t, impl.Vec{})
	noVec(t, impl.Vec{Root: 1})
	noVec(t, impl.Vec{Bridge: 1})
	noVec(t, impl.Vec{Root: 100, Cost: 100001, Hops: 11, Bridge: 100, Port: 8})
	noVec(t, impl.Vec{Root: -1, Cost: -1, Hops: -1, Bridge: -1, Port: -1})
	noVec(t, impl.Vec{Root: 1, Cost: -1, Hops: 11, Bridge: 1})
	noPutVec(t, impl.Vec{Root: math.MaxInt, Cost: math.MaxInt, Hops: math.MaxInt, Bridge: math.MaxInt, Port: math.MaxInt})
	noPutVec(t, impl.Vec{Root: math.MinInt, Cost: math.MinInt, Hops: math.MinInt, Bridge: math.MinInt, Port: math.MinInt})
}

// lessByRule tells the order by the document's words, number by number.
func lessByRule(a impl.Vec, b impl.Vec) bool {
	if a.Root != b.Root {
		return a.Root < b.Root
	}
	if a.Cost != b.Cost {
		return a.Cost < b.Cost
	}
	if a.Bridge != b.Bridge {
		return a.Bridge < b.Bridge
	}
	return a.Port < b.Port
}

func inOrder(t *testing.T, a impl.Vec, b impl.Vec) {
	t.Helper()
	if !impl.LessVec(a, b) || impl.LessVec(b, a) {
		t.Errorf("%+v is not less than %+v alone", a, b)
	}
}

func asGood(t *testing.T, a impl.Vec, b impl.Vec) {
	t.Helper()
	if impl.LessVec(a, b) || impl.LessVec(b, a) {
		t.Errorf("%+v and %+v are not as good", a, b)
	}
}

// Every two of these are in order: each number weighs more than all that count behind it.
func TestOrderOfVectors(t *testing.T) {
	rising := []impl.Vec{
		{Root: 1, Cost: 0, Hops: 9, Bridge: 1, Port: 0},
		{Root: 1, Cost: 0, Hops: 8, Bridge: 1, Port: 7},
		{Root: 1, Cost: 0, Hops: 7, Bridge: 99, Port: 0},
		{Root: 1, Cost: 0, Hops: 6, Bridge: 99, Port: 7},
		{Root: 1, Cost: 1, Hops: 5, Bridge: 1, Port: 0},
		{Root: 1, Cost: 100000, Hops: 4, Bridge: 1, Port: 0},
		{Root: 1, Cost: 100000, Hops: 3, Bridge: 99, Port: 7},
		{Root: 2, Cost: 0, Hops: 2, Bridge: 1, Port: 0},
		{Root: 2, Cost: 0, Hops: 1, Bridge: 2, Port: 0},
		{Root: 99, Cost: 0, Hops: 0, Bridge: 1, Port: 0},
	}
	for i, a := range rising {
		asGood(t, a, a)
		for _, b := range rising[i+1:] {
			inOrder(t, a, b)
		}
	}
}

func TestOrderOfVectorsThatDifferInOneNumber(t *testing.T) {
	v := impl.Vec{Root: 3, Cost: 300, Hops: 4, Bridge: 5, Port: 6}
	for _, field := range vecFields() {
		for _, pair := range [][2]int{{field.least, field.most}, {field.least, field.least + 1}, {field.most - 1, field.most}, {-1, 0}, {math.MinInt, math.MaxInt}, {math.MinInt, 0}, {0, math.MaxInt}, {math.MinInt, math.MinInt + 1}, {5, 5 + 1<<32}} {
			a, b := v, v
			field.set(&a, pair[0])
			field.set(&b, pair[1])
			if field.name == "Hops" {
				asGood(t, a, b)
			} else {
				inOrder(t, a, b)
			}
		}
	}
}

func TestHopsDoNotCountInTheOrder(t *testing.T) {
	for one := range 11 {
		for two := range 11 {
			asGood(t, impl.Vec{Root: 1, Cost: 5, Hops: one, Bridge: 2, Port: 3}, impl.Vec{Root: 1, Cost: 5, Hops: two, Bridge: 2, Port: 3})
			asGood(t, impl.Vec{Hops: one}, impl.Vec{Hops: two})
			inOrder(t, impl.Vec{Root: 1, Cost: 5, Hops: one, Bridge: 2, Port: 3}, impl.Vec{Root: 1, Cost: 5, Hops: two, Bridge: 2, Port: 4})
			inOrder(t, impl.Vec{Root: 1, Cost: 5, Hops: one, Bridge: 2, Port: 3}, impl.Vec{Root: 1, Cost: 5, Hops: two, Bridge: 3, Port: 0})
			inOrder(t, impl.Vec{Root: 1, Cost: 5, Hops: one, Bridge: 2, Port: 3}, impl.Vec{Root: 1, Cost: 6, Hops: two, Bridge: 1, Port: 0})
			inOrder(t, impl.Vec{Root: 1, Cost: 5, Hops: one, Bridge: 2, Port: 3}, impl.Vec{Root: 2, Cost: 0, Hops: two, Bridge: 1, Port: 0})
		}
	}
}

// Every two of all vectors of few numbers, right or not.
func TestOrderOfVectorsByItsRule(t *testing.T) {
	var all []impl.Vec
	for _, root := range []int{-1, 0, 1} {
		for _, cost := range []int{0, 1, 200000} {
			for hops := range 2 {
				for _, bridge := range []int{0, 1, 100} {
					for _, port := range []int{-8, 0, 7} {
						all = append(all, impl.Vec{Root: root, Cost: cost, Hops: hops, Bridge: bridge, Port: port})
					}
				}
			}
		}
	}
	for _, a := range all {
		for _, b := range all {
			if got := impl.LessVec(a, b); got != lessByRule(a, b) {
				t.Errorf("LessVec(%+v, %+v) = %v", a, b, got)
			}
		}
	}
}

func TestStepsThatGoFurther(t *testing.T) {
	for cost := 1; cost <= 1000; cost++ {
		isStep(t, impl.Vec{Root: 1, Cost: 300, Hops: 2, Bridge: 5, Port: 3}, cost)
		isStep(t, impl.Vec{Root: 9, Bridge: 9}, cost)
	}
	for _, v := range someVecs() {
		if v.Hops < 10 && v.Cost < 100000 {
			isStep(t, v, 1)
		} else {
			noStep(t, v, 1)
		}
	}
}

// From each of these every step that is none of 1 .. 1000 is refused, also where what it made would be right.
func TestCostsThatAreNone(t *testing.T) {
	for _, v := range []impl.Vec{{Root: 1, Bridge: 1}, {Root: 1, Cost: 300, Hops: 2, Bridge: 5, Port: 3}, {Root: 99, Cost: 50000, Hops: 9, Bridge: 99, Port: 7}, {Root: 1, Cost: 100000, Hops: 5, Bridge: 1}} {
		for _, cost := range []int{0, -1, -2, -300, -1000, -1001, -50000, -100000, 1001, 1002, 2000, 10000, 50000, 100000, 100001, 1 << 32, 1<<32 + 1, math.MaxInt32, math.MinInt32, math.MaxInt, math.MaxInt - 1, math.MinInt, math.MinInt + 1} {
			noStep(t, v, cost)
		}
	}
}

func TestStepsToJustMaxCost(t *testing.T) {
	for _, hops := range []int{0, 1, 9} {
		for _, cost := range []int{1, 2, 7, 999, 1000} {
			v := impl.Vec{Root: 2, Cost: 100000 - cost, Hops: hops, Bridge: 3, Port: 4}
			isStep(t, v, cost)
			v.Cost++
			noStep(t, v, cost)
			v.Cost = 100000
			noStep(t, v, cost)
			v.Cost = 100000 - cost - 1
			isStep(t, v, cost)
		}
	}
}

func TestStepsToJustMaxHops(t *testing.T) {
	for _, cost := range []int{1, 500, 1000} {
		for _, from := range []int{0, 1, 99000} {
			for hops := range 10 {
				isStep(t, impl.Vec{Root: 2, Cost: from, Hops: hops, Bridge: 3, Port: 4}, cost)
			}
			noStep(t, impl.Vec{Root: 2, Cost: from, Hops: 10, Bridge: 3, Port: 4}, cost)
		}
	}
	noStep(t, impl.Vec{Root: 2, Cost: 100000, Hops: 10, Bridge: 3, Port: 4}, 1)
}

func TestStepsOneBehindTheOther(t *testing.T) {
	v := impl.Vec{Root: 4, Bridge: 7, Port: 2}
	for k := 1; k <= 10; k++ {
		next, ok := impl.StepVec(v, 100*k)
		if !ok || next.Hops != k || next.Cost != 50*k*(k+1) || !impl.LessVec(v, next) {
			t.Fatalf("step %d: StepVec(%+v) = %+v, %v", k, v, next, ok)
		}
		isVec(t, next)
		v = next
	}
	noStep(t, v, 1)
}

// What is wrong ahead of a step is not mended by it: from each of these a step would come to what is right.
func TestStepsFromWrongVectorsThatWouldComeRight(t *testing.T) {
	for _, cost := range []int{1, 5, 1000} {
		noStep(t, impl.Vec{Root: 1, Cost: -1, Bridge: 1}, cost)
		noStep(t, impl.Vec{Root: 1, Cost: -cost, Bridge: 1}, cost)
		noStep(t, impl.Vec{Root: 1, Hops: -1, Bridge: 1}, cost)
		noStep(t, impl.Vec{Root: 1, Cost: -cost, Hops: -1, Bridge: 1}, cost)
	}
	noStep(t, impl.Vec{Root: 1, Cost: 100001, Bridge: 1}, -1)
	noStep(t, impl.Vec{Root: 1, Cost: math.MaxInt, Hops: math.MaxInt, Bridge: 1}, math.MaxInt)
	noStep(t, impl.Vec{Root: 1, Cost: math.MinInt, Hops: math.MinInt, Bridge: 1}, math.MinInt)
}

func TestVectorsThatAreCut(t *testing.T) {
	for _, v := range []impl.Vec{{Root: 1, Bridge: 1}, {Root: 1, Cost: 300, Hops: 2, Bridge: 5, Port: 3}, {Root: 99, Cost: 100000, Hops: 10, Bridge: 99, Port: 7}} {
		whole := wantVec(v)
		for end := range whole {
			noVecBytes(t, whole[:end])
			noVecBytes(t, whole[:end:end])
		}
		for from := 1; from <= len(whole); from++ {
			noVecBytes(t, whole[from:])
		}
	}
	noVecBytes(t, nil)
	noVecBytes(t, []byte{})
}

func TestMoreBehindVectors(t *testing.T) {
	for _, v := range []impl.Vec{{Root: 1, Bridge: 1}, {Root: 99, Cost: 100000, Hops: 10, Bridge: 99, Port: 7}} {
		whole := wantVec(v)
		for x := range 256 {
			noVecBytes(t, append(bytes.Clone(whole), byte(x)))
		}
		for _, more := range [][]byte{{0, 0}, {2, 0}, number(0), number(1), whole, make([]byte, 1000)} {
			noVecBytes(t, slices.Concat(whole, more))
		}
	}
}

func TestWhatStandsAheadOfAVector(t *testing.T) {
	whole := wantVec(impl.Vec{Root: 1, Cost: 2, Hops: 3, Bridge: 4, Port: 5})
	for _, ahead := range [][]byte{{0}, {2}, {0, 0}, {2, 0}, number(0), number(1), wantPart(48, nil)} {
		noVecBytes(t, slices.Concat(ahead, whole))
	}
	noVecBytes(t, wantPart(48, whole))
}

func vecPartsOf(v impl.Vec) [][]byte {
	return [][]byte{number(v.Root), number(v.Cost), number(v.Hops), number(v.Bridge), number(v.Port)}
}

func TestPartsOfVectorsWithAnotherTag(t *testing.T) {
	for at := range 5 {
		for tag := range 256 {
			parts := vecPartsOf(impl.Vec{Root: 1, Cost: 1, Hops: 1, Bridge: 1, Port: 1})
			parts[at] = wantPart(tag, []byte{1})
			if tag != 2 {
				noVecBytes(t, bytes.Join(parts, nil))
			}
		}
	}
	for _, tag := range []int{0, 1, 3, 4, 48} {
		noVecBytes(t, bytes.Repeat(wantPart(tag, []byte{1}), 5))
	}
}

// Of rows of any count of parts only those of five are a vector, and one that lacks is not taken for 0.
func TestCountsOfPartsOfVectors(t *testing.T) {
	for count := range 20 {
		b := bytes.Repeat(number(1), count)
		if v, ok := impl.GetVec(b); ok != (count == 5) || ok != (v != impl.Vec{}) {
			t.Errorf("GetVec of %d parts: %+v, %v", count, v, ok)
		}
	}
	for at := range 5 {
		parts := vecPartsOf(impl.Vec{Root: 1, Cost: 2, Hops: 3, Bridge: 4, Port: 5})
		noVecBytes(t, bytes.Join(slices.Delete(slices.Clone(parts), at, at+1), nil))
		noVecBytes(t, bytes.Join(slices.Insert(slices.Clone(parts), at, number(1)), nil))
		noVecBytes(t, bytes.Join(slices.Insert(slices.Clone(parts), at, parts[at]), nil))
	}
}

func TestNumbersOfVectorsWhoseBytesAreNone(t *testing.T) {
	for at := range 5 {
		for _, bad := range []string{"", "\x00\x00", "\x00\x01", "\x00\x05", "\x00\x7f", "\x00\x00\x01", "\x00\x00\x00\x01", "\x00\x00\x00\x00\x01", "\xff\xff", "\x01\x01\x01\x01\x01", "\x00\x00\x00\x00\x00", strings.Repeat("\x01", 130)} {
			parts := vecPartsOf(impl.Vec{Root: 1, Cost: 1, Hops: 1, Bridge: 1, Port: 1})
			parts[at] = wantPart(2, []byte(bad))
			noVecBytes(t, bytes.Join(parts, nil))
		}
	}
}

func TestLengthsOfVectorsAreSaidInOneForm(t *testing.T) {
	for at := range 5 {
		for _, bad := range []string{"\x02\x81\x01\x01", "\x02\x80\x01\x01", "\x02\x82\x00\x01\x01", "\x02\x83\x01\x01", "\x02\xff\x01\x01", "\x02\x80\x01\x00\x00"} {
			parts := vecPartsOf(impl.Vec{Root: 1, Cost: 1, Hops: 1, Bridge: 1, Port: 1})
			parts[at] = []byte(bad)
			noVecBytes(t, bytes.Join(parts, nil))
		}
	}
}

// vecOfBytes tells by the chapters ahead what vector these bytes are: five numbers, each within its ends.
func vecOfBytes(b []byte) (impl.Vec, bool) {
	var numbers []int
	for at := 0; at < len(b); {
		tag, body, behind, ok := impl.GetTlv(b, at)
		n, isNumber := impl.GetInt(body)
		if !ok || tag != 2 || !isNumber {
			return impl.Vec{}, false
		}
		numbers, at = append(numbers, n), behind
	}
	if len(numbers) != 5 {
		return impl.Vec{}, false
	}
	var v impl.Vec
	for i, field := range vecFields() {
		if numbers[i] < field.least || numbers[i] > field.most {
			return impl.Vec{}, false
		}
		field.set(&v, numbers[i])
	}
	return v, true
}

// oneFormOfVec wants what these bytes are, and of a vector just these bytes to be put.
func oneFormOfVec(t *testing.T, b []byte) {
	t.Helper()
	want, ok := vecOfBytes(b)
	if !ok {
		noVecBytes(t, b)
		return
	}
	isVec(t, want)
	if !bytes.Equal(wantVec(want), b) {
		t.Errorf("%x is a second form of %+v", b, want)
	}
}

func TestEachVectorHasOneForm(t *testing.T) {
	for _, v := range []impl.Vec{{Root: 1, Bridge: 1}, {Root: 1, Cost: 2, Hops: 2, Bridge: 2, Port: 1}, {Root: 1, Cost: 300, Hops: 2, Bridge: 5, Port: 3}, {Root: 99, Cost: 100000, Hops: 10, Bridge: 99, Port: 7}} {
		whole := wantVec(v)
		for at := range whole {
			oneFormOfVec(t, slices.Delete(bytes.Clone(whole), at, at+1))
			for x := range 256 {
				turned := bytes.Clone(whole)
				turned[at] = byte(x)
				oneFormOfVec(t, turned)
				oneFormOfVec(t, slices.Insert(bytes.Clone(whole), at, byte(x)))
				for next := at + 1; next < len(whole); next++ {
					twice := bytes.Clone(turned)
					twice[next] ^= 1
					oneFormOfVec(t, twice)
				}
			}
		}
	}
}

func TestVectorsThatDifferHaveOtherBytes(t *testing.T) {
	seen := map[string]impl.Vec{}
	for _, v := range someVecs() {
		b := string(impl.PutVec(v))
		if other, ok := seen[b]; ok {
			t.Errorf("%+v and %+v have the same bytes %x", v, other, b)
		}
		seen[b] = v
	}
}

func TestBytesThatAreNoVectorAtAll(t *testing.T) {
	for _, b := range []string{"\x02", "\x02\x00", "\x02\x01", "hello", strings.Repeat("\x00", 15), strings.Repeat("\x00", 1000), strings.Repeat("\x02\x00", 5), strings.Repeat("\x02\x01\x01", 1000), strings.Repeat("\xff", 100000)} {
		noVecBytes(t, []byte(b))
	}
	noVecBytes(t, wantFrame(impl.Frame{Dst: 1, Src: 2, Tag: 3, Data: []byte("hi")}))
	for first := range 256 {
		noVecBytes(t, []byte{byte(first)})
		for second := range 256 {
			noVecBytes(t, []byte{byte(first), byte(second)})
		}
	}
}

func TestBytesOfVectorsAreNotWritten(t *testing.T) {
	whole := wantVec(impl.Vec{Root: 1, Cost: 300, Hops: 2, Bridge: 5, Port: 3})
	room := append(bytes.Clone(whole), 2, 1, 9, 9)
	kept := bytes.Clone(room)
	for end := range len(room) + 1 {
		_, ok := impl.GetVec(room[:end])
		if ok != (end == len(whole)) || !bytes.Equal(room, kept) {
			t.Fatalf("GetVec of %d bytes: %v, %x", end, ok, room)
		}
	}
}

func TestBytesOfVectorsShareNothing(t *testing.T) {
	v := impl.Vec{Root: 1, Cost: 300, Hops: 2, Bridge: 5, Port: 3}
	one, two := impl.PutVec(v), impl.PutVec(v)
	clear(one)
	_ = append(one, 77, 78)
	if !bytes.Equal(two, wantVec(v)) || !bytes.Equal(impl.PutVec(v), wantVec(v)) {
		t.Errorf("%x", two)
	}
}

func TestVectorsThatAreRefusedLeaveNothingBehind(t *testing.T) {
	for _, wrong := range []impl.Vec{{}, {Root: 100, Bridge: 1}, {Root: 1, Cost: 100001, Bridge: 1}, {Root: 1, Hops: 11, Bridge: 1}, {Root: 1, Bridge: 100}, {Root: 1, Bridge: 1, Port: 8}} {
		noVec(t, wrong)
		isVec(t, impl.Vec{Root: 1, Bridge: 1})
		isStep(t, impl.Vec{Root: 1, Cost: 300, Hops: 2, Bridge: 5, Port: 3}, 7)
	}
}

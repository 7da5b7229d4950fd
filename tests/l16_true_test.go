package tests

import (
	"math"
	"math/big"
	"slices"
	"testing"

	"loop.example/g00326/impl"
)

// wantRoot and the models below say the document's words once more, plainly, part by part.
func wantRoot(n impl.Net, b int) int {
	joined := wantJoined(n, b, upLinks(n))
	if len(joined) == 0 {
		return 0
	}
	least := n.Bridges[joined[0]].Id
	for _, place := range joined {
		least = min(least, n.Bridges[place].Id)
	}
	return least
}

// allWays tells of each way on from a bridge, over none twice, where it comes to, and its sum.
func allWays(n impl.Net, at int, over []int, sum *big.Int, tell func(at int, sum *big.Int)) {
	tell(at, sum)
	over = append(slices.Clone(over), at)
	for _, k := range upLinks(n) {
		l := n.Links[k]
		for _, way := range [][3]int{{l.A, l.B, l.Q}, {l.B, l.A, l.P}} {
			if way[0] == at && !slices.Contains(over, way[1]) {
				cost := big.NewInt(int64(n.Bridges[way[1]].Ports[way[2]].Cost))
				allWays(n, way[1], over, cost.Add(cost, sum), tell)
			}
		}
	}
}

func wantDist(n impl.Net, b int) int {
	if !hasBridge(n, b) {
		return -1
	}
	root := wantRoot(n, b)
	if n.Bridges[b].Id == root {
		return 0
	}
	var least *big.Int
	for from, bridge := range n.Bridges {
		if bridge.Id != root {
			continue
		}
		allWays(n, from, nil, big.NewInt(0), func(at int, sum *big.Int) {
			if at == b && (least == nil || sum.Cmp(least) < 0) {
				least = sum
			}
		})
	}
	switch {
	case least.Cmp(big.NewInt(math.MaxInt)) > 0:
		return math.MaxInt
	case least.Cmp(big.NewInt(math.MinInt)) < 0:
		return math.MinInt
	}
	return int(least.Int64())
}

func wantKnows(n impl.Net, b int) bool {
	if !hasBridge(n, b) {
		return false
	}
	v, _ := wantBest(n.Bridges[b].Id, n.Bridges[b].Ports)
	return v.Root == wantRoot(n, b) && v.Cost == wantDist(n, b)
}

// asItIs wants all that chapter 16 asks of n to be as the models have it, at every bridge
// and beyond, and nothing of it written.
func asItIs(t *testing.T, n impl.Net) {
	t.Helper()
	up := asksOf(t, n, nil, func(n impl.Net, _ []int) []int {
		for b := -1; b <= len(n.Bridges); b++ {
			if root, want := impl.RootTrue(n, b), wantRoot(n, b); root != want {
				t.Errorf("RootTrue(%+v, %d) = %d; want %d", n, b, root, want)
			}
			if dist, want := impl.DistTrue(n, b), wantDist(n, b); dist != want {
				t.Errorf("DistTrue(%+v, %d) = %d; want %d", n, b, dist, want)
			}
			if knows, want := impl.Knows(n, b), wantKnows(n, b); knows != want {
				t.Errorf("Knows(%+v, %d) = %v; want %v", n, b, knows, want)
			}
		}
		return impl.UpLinks(n)
	})
	if !slices.Equal(up, upLinks(n)) {
		t.Errorf("UpLinks(%+v) = %v; want %v", n, up, upLinks(n))
	}
}

// upAre wants just these links to be up.
func upAre(t *testing.T, n impl.Net, want ...int) {
	t.Helper()
	asItIs(t, n)
	if up := impl.UpLinks(n); !slices.Equal(up, want) {
		t.Errorf("UpLinks(%+v) = %v; want %v", n, up, want)
	}
}

// eachIs wants so to be answered of the bridges, one by one.
func eachIs(t *testing.T, n impl.Net, ask func(n impl.Net, b int) int, want []int) {
	t.Helper()
	asItIs(t, n)
	var all []int
	for b := range n.Bridges {
		all = append(all, ask(n, b))
	}
	if !slices.Equal(all, want) {
		t.Errorf("of the bridges of %+v there are answered %v; want %v", n, all, want)
	}
}

// rootsAre wants these to be the roots, bridge by bridge.
func rootsAre(t *testing.T, n impl.Net, want ...int) {
	t.Helper()
	eachIs(t, n, impl.RootTrue, want)
}

// distsAre wants the bridges to be so far from their roots.
func distsAre(t *testing.T, n impl.Net, want ...int) {
	t.Helper()
	eachIs(t, n, impl.DistTrue, want)
}

// knowing wants just these bridges to know.
func knowing(t *testing.T, n impl.Net, want ...int) {
	t.Helper()
	asItIs(t, n)
	var all []int
	for b := range n.Bridges {
		if impl.Knows(n, b) {
			all = append(all, b)
		}
	}
	if !slices.Equal(all, want) {
		t.Errorf("of %+v there know %v; want %v", n, all, want)
	}
}

// allKnow wants each bridge of n to know, and what it says of its root to be so.
func allKnow(t *testing.T, n impl.Net) {
	t.Helper()
	asItIs(t, n)
	for b, bridge := range n.Bridges {
		v, _ := impl.BestVec(bridge.Id, bridge.Ports)
		if !impl.Knows(n, b) || v.Root != wantRoot(n, b) || v.Cost != wantDist(n, b) {
			t.Errorf("the bridge %d of %+v has %+v; its root is %d, %d off", b, n, v, wantRoot(n, b), wantDist(n, b))
		}
	}
}

// comeToKnow lets n agree, and wants each bridge to know then, and whenever they agree ahead of it.
func comeToKnow(t *testing.T, n impl.Net) impl.Net {
	t.Helper()
	for range 20 {
		if impl.Agreed(n) {
			allKnow(t, n)
		}
		n = impl.Round(n)
	}
	agreedIs(t, n, true)
	allKnow(t, n)
	return n
}

// withCosts is n with these Costs, bridge by bridge, port by port.
func withCosts(n impl.Net, costs ...[]int) impl.Net {
	n = copiedNet(n)
	for b, l := range costs {
		for p, cost := range l {
			n.Bridges[b].Ports[p].Cost = cost
		}
	}
	return n
}

// roundAbout is a ring of bridges of these Ids: the port 1 of each leads to the port 0 of the next one, the last link from the last bridge to the first.
func roundAbout(ids ...int) impl.Net {
	l := append(lineOf(ids...).Links, impl.Link{A: len(ids) - 1, P: 1, B: 0, Q: 0})
	return impl.NetNew(ids, 2, l)
}

// Of a pair the Cost counts of the port by which one comes to the bridge that is not the root.
func TestTrueOfAPair(t *testing.T) {
	upAre(t, pair(), 0)
	rootsAre(t, pair(), 1, 1)
	distsAre(t, pair(), 1, 0)
	for root, want := range [][]int{{0, 30}, {20, 0}} {
		ids := []int{2, 2}
		ids[root] = 1
		n := withCosts(impl.NetNew(ids, 2, pair().Links), []int{100, 20}, []int{30, 400})
		rootsAre(t, n, 1, 1)
		distsAre(t, n, want...)
		// The root knows of itself; the other one must hear of it.
		knowing(t, n, root)
		knowing(t, impl.Round(n), 0, 1)
		comeToKnow(t, n)
	}
}

// Of a line, wherever the root stands in it.
func TestTrueOfALine(t *testing.T) {
	costs := [][]int{{999, 1}, {20, 300}, {4, 50}, {600, 7}, {80, 999}}
	for root, want := range [][]int{{0, 20, 24, 624, 704}, {1, 0, 4, 604, 684}, {301, 300, 0, 600, 680}, {351, 350, 50, 0, 80}, {358, 357, 57, 7, 0}} {
		ids := []int{9, 8, 7, 6, 5}
		ids[root] = 3
		n := withCosts(lineOf(ids...), costs...)
		upAre(t, n, 0, 1, 2, 3)
		rootsAre(t, n, 3, 3, 3, 3, 3)
		distsAre(t, n, want...)
		knowing(t, n, root)
		n = comeToKnow(t, n)
		distsAre(t, n, want...)
		// However the links are told, there and back.
		for k, l := range n.Links {
			n.Links[k] = impl.Link{A: l.B, P: l.Q, B: l.A, Q: l.P}
			distsAre(t, n, want...)
		}
		slices.Reverse(n.Links)
		distsAre(t, n, want...)
	}
}

func TestTrueOfARing(t *testing.T) {
	upAre(t, ring3(), 0, 1, 2)
	rootsAre(t, ring3(), 1, 1, 1)
	distsAre(t, ring3(), 1, 0, 1)
	for root, want := range [][]int{{0, 1, 2, 3, 2, 1}, {1, 0, 1, 2, 3, 2}, {2, 1, 0, 1, 2, 3}, {3, 2, 1, 0, 1, 2}, {2, 3, 2, 1, 0, 1}, {1, 2, 3, 2, 1, 0}} {
		ids := []int{99, 98, 97, 96, 95, 94}
		ids[root] = 93
		n := roundAbout(ids...)
		distsAre(t, n, want...)
		distsAre(t, comeToKnow(t, n), want...)
	}
}

// A longer way over more bridges that costs less, as much, or more than the short one.
func TestTrueByALongerWay(t *testing.T) {
	n := ring3()
	for cost, dist := range map[int]int{1: 1, 2: 2, 3: 2, 1000: 2} {
		near := withCosts(n, []int{cost})
		distsAre(t, near, dist, 0, 1)
		distsAre(t, comeToKnow(t, near), dist, 0, 1)
	}
	// Over all five others of a ring of six: the port 0 of the last bridge is on the long way, its port 1 leads to the root.
	for short, dist := range map[int]int{999: 999, 1000: 1000, 994: 994} {
		for long, sum := range map[int]int{200: 1000, 199: 995, 1: 5} {
			n := withCosts(roundAbout(1, 2, 3, 4, 5, 6), []int{7, 7}, []int{long, 500}, []int{long, 500}, []int{long, 500}, []int{long, 500}, []int{long, short})
			if got := impl.DistTrue(n, 5); got != min(dist, sum) {
				t.Errorf("by %d it is %d, by %d five times %d: %d", short, dist, long, sum, got)
			}
			comeToKnow(t, n)
		}
	}
	// In the middle of it there are two ways that cost the same.
	n = withCosts(roundAbout(1, 2, 3, 4), []int{9, 9}, []int{3, 1}, []int{4, 5}, []int{9, 2})
	distsAre(t, n, 0, 3, 7, 2)
	distsAre(t, comeToKnow(t, n), 0, 3, 7, 2)
}

// Each port in turn costs more: it counts just where the way comes by it.
func TestWhichCostsCount(t *testing.T) {
	for b, ports := range [][][]int{{{50, 0, 1}, {1, 0, 1}, {1, 0, 1}}, {{1, 0, 1}, {1, 0, 1}, {1, 0, 1}}, {{1, 0, 1}, {1, 0, 50}, {1, 0, 1}}} {
		for p, want := range ports {
			n := withCosts(ring3(), []int{1, 90}, nil, []int{90, 1})
			n.Bridges[b].Ports[p].Cost = max(50, n.Bridges[b].Ports[p].Cost)
			distsAre(t, n, want...)
			distsAre(t, comeToKnow(t, n), want...)
		}
	}
}

func TestTrueByCostsOfOneAndOfAThousand(t *testing.T) {
	ids := []int{1, 2, 3, 4, 5, 6}
	distsAre(t, comeToKnow(t, lineOf(ids...)), 0, 1, 2, 3, 4, 5)
	all := slices.Repeat([][]int{{1000, 1000}}, 6)
	distsAre(t, comeToKnow(t, withCosts(lineOf(ids...), all...)), 0, 1000, 2000, 3000, 4000, 5000)
	distsAre(t, comeToKnow(t, withCosts(roundAbout(ids...), all...)), 0, 1000, 2000, 3000, 2000, 1000)
	slices.Reverse(ids)
	distsAre(t, comeToKnow(t, withCosts(lineOf(ids...), all...)), 5000, 4000, 3000, 2000, 1000, 0)
}

// Of links between the same two the one counts that costs least, at the end by which one comes.
func TestTrueByOneOfSeveralLinks(t *testing.T) {
	var l []impl.Link
	for p := range 6 {
		l = append(l, impl.Link{A: 0, P: p, B: 1, Q: 5 - p})
		if p%2 == 1 {
			l[p] = impl.Link{A: 1, P: 5 - p, B: 0, Q: p}
		}
	}
	for least := range 6 {
		costs := []int{16, 15, 14, 13, 12, 11}
		costs[least] = 10
		distsAre(t, comeToKnow(t, withCosts(impl.NetNew([]int{2, 1}, 6, l), costs, []int{1, 2, 3, 4, 5, 6})), 10, 0)
		distsAre(t, comeToKnow(t, withCosts(impl.NetNew([]int{1, 2}, 6, l), []int{1, 2, 3, 4, 5, 6}, costs)), 0, 10)
	}
}

// All Costs of 1 to 3 of a ring, and each bridge of it the root.
func TestAllSmallCostsOfARing(t *testing.T) {
	for root := range 3 {
		ids := []int{7, 8, 9}
		ids[root] = 1
		ring := impl.NetNew(ids, 2, ring3().Links)
		for i := range 729 {
			n := withCosts(ring, []int{1 + i%3, 1 + i/3%3}, []int{1 + i/9%3, 1 + i/27%3}, []int{1 + i/81%3, 1 + i/243})
			n = impl.Rounds(n, 5)
			for b := range 3 {
				if dist := impl.DistTrue(n, b); dist != wantDist(n, b) || impl.RootTrue(n, b) != 1 || !impl.Knows(n, b) {
					t.Fatalf("the bridge %d of %+v is %d from its root; want %d", b, n, dist, wantDist(n, b))
				}
			}
		}
	}
}

// All choices of nine links, the others cut: they fall apart in all ways that there are.
func TestAllChoicesOfLinksThatAreUp(t *testing.T) {
	all := withCosts(impl.NetNew([]int{4, 2, 6, 1, 5, 3}, 3, nineLinks()), []int{1, 5, 9}, []int{4, 2, 2}, []int{1, 1, 7}, []int{3, 8, 1}, []int{2, 2, 6}, []int{9, 1, 4})
	for bits := range 512 {
		n := all
		for k := range 9 {
			if !hasBit(bits, k) {
				n, _ = impl.Step(n, impl.Event{Kind: impl.EvCut, At: k})
			}
		}
		asItIs(t, n)
		n = impl.Rounds(n, 8)
		for b := range 6 {
			if !impl.Agreed(n) || !impl.Knows(n, b) {
				t.Errorf("of the links %b the bridge %d does not know: %+v", bits, b, n)
			}
		}
	}
}

// Behind a cut those that heard of the root across it go on telling of it: each part has a root of its own.
func TestEachPartHasARootOfItsOwn(t *testing.T) {
	n := comeToKnow(t, lineOf(1, 2, 3, 4, 5, 6))
	n = cutAt(t, n, 2)
	upAre(t, n, 0, 1, 3, 4)
	rootsAre(t, n, 1, 1, 1, 4, 4, 4)
	distsAre(t, n, 0, 1, 2, 0, 1, 2)
	knowing(t, n, 0, 1, 2)
	knowing(t, impl.Round(n), 0, 1, 2)
	knowing(t, impl.Rounds(n, 20), 0, 1, 2, 3, 4, 5)
	n = cutAt(t, impl.Rounds(n, 20), 4)
	rootsAre(t, n, 1, 1, 1, 4, 4, 6)
	distsAre(t, n, 0, 1, 2, 0, 1, 0)
	// The last one stands by itself now, and knows it: what it heard is forgotten.
	knowing(t, n, 0, 1, 2, 3, 4, 5)
	n, _ = impl.Step(n, impl.Event{Kind: impl.EvJoin, At: 2})
	rootsAre(t, n, 1, 1, 1, 1, 1, 6)
	distsAre(t, n, 0, 1, 2, 3, 4, 0)
	knowing(t, n, 0, 1, 2, 5)
	comeToKnow(t, n)
}

func TestCutBehindTheLastRound(t *testing.T) {
	n := comeToKnow(t, ring3())
	for k, want := range [][]int{{2, 0, 1}, {1, 0, 2}, {1, 0, 1}} {
		after := cutAt(t, n, k)
		distsAre(t, after, want...)
		// Each has heard of the other way, too, though they are not Agreed on it but for the last link.
		knowing(t, after, 0, 1, 2)
		agreedIs(t, after, k == 2)
		comeToKnow(t, after)
	}
	after := cutAt(t, cutAt(t, n, 0), 1)
	upAre(t, after, 2)
	rootsAre(t, after, 2, 1, 2)
	distsAre(t, after, 1, 0, 0)
	knowing(t, after, 1)
	knowing(t, comeToKnow(t, after), 0, 1, 2)
	after = cutAt(t, after, 2)
	upAre(t, after)
	rootsAre(t, after, 3, 1, 2)
	distsAre(t, after, 0, 0, 0)
	knowing(t, after, 0, 1, 2)
}

func TestTrueWithoutLinks(t *testing.T) {
	for count := 1; count <= 6; count++ {
		ids := []int{6, 1, 5, 99, 3, 2}[:count]
		n := impl.NetNew(ids, 3, nil)
		upAre(t, n)
		rootsAre(t, n, ids...)
		distsAre(t, n, make([]int, count)...)
		comeToKnow(t, n)
		if count > 1 {
			n = impl.NetNew(ids, 2, lineOf(ids...).Links)
			for k := range n.Links {
				n = cutAt(t, n, k)
			}
			upAre(t, n)
			rootsAre(t, n, ids...)
			distsAre(t, n, make([]int, count)...)
			allKnow(t, n)
		}
	}
}

// noSuchBridge wants what is asked of a bridge that is not there to be so.
func noSuchBridge(t *testing.T, n impl.Net, b int) {
	t.Helper()
	if root, dist, knows := impl.RootTrue(n, b), impl.DistTrue(n, b), impl.Knows(n, b); root != 0 || dist != -1 || knows {
		t.Errorf("at %d of %d bridges: %d, %d, %v", b, len(n.Bridges), root, dist, knows)
	}
}

// The first bridge, the last one, and one beyond either.
func TestPlacesOfWhatIsTrue(t *testing.T) {
	for count := 1; count <= 6; count++ {
		n := impl.Rounds(lineOf([]int{16, 15, 14, 13, 12, 11}[:count]...), 20)
		for _, b := range append(strayPlaces(), count) {
			noSuchBridge(t, n, b)
		}
		for b := range count {
			if impl.RootTrue(n, b) != 17-count || impl.DistTrue(n, b) != count-1-b || !impl.Knows(n, b) {
				t.Errorf("at %d of %d bridges: %d, %d, %v", b, count, impl.RootTrue(n, b), impl.DistTrue(n, b), impl.Knows(n, b))
			}
		}
	}
	for _, n := range []impl.Net{{}, {Bridges: []impl.Bridge{}}, {Links: ring3().Links}} {
		upAre(t, n)
		for _, b := range append(strayPlaces(), 0, 1) {
			noSuchBridge(t, n, b)
		}
	}
}

// Root and Cost must both be so; what else a vector tells is not asked.
func TestRootAndCostAreKnown(t *testing.T) {
	n := withCosts(impl.NetNew([]int{5, 4}, 1, []impl.Link{{A: 0, P: 0, B: 1, Q: 0}}), []int{7}, []int{9})
	for _, heard := range []struct {
		v     impl.Vec
		knows bool
	}{
		{impl.Vec{Root: 4, Bridge: 4}, true},
		{impl.Vec{Root: 4, Hops: 9, Bridge: 88, Port: 7}, true},
		{impl.Vec{Root: 4, Hops: 10, Bridge: 4}, false},
		{impl.Vec{Root: 4, Cost: 1, Bridge: 4}, false},
		{impl.Vec{Root: 4, Cost: 99993, Bridge: 4}, false},
		{impl.Vec{Root: 4, Cost: 99994, Bridge: 4}, false},
		{impl.Vec{Root: 3, Bridge: 4}, false},
		{impl.Vec{Root: 1, Bridge: 1}, false},
		{impl.Vec{Root: 5, Bridge: 4}, false},
		{impl.Vec{Root: 6, Bridge: 6}, false},
	} {
		after := copiedNet(n)
		after.Bridges[0] = impl.HearVec(after.Bridges[0], 0, heard.v)
		if heard.knows {
			knowing(t, after, 0, 1)
		} else {
			knowing(t, after, 1)
		}
		distsAre(t, after, 7, 0)
		comeToKnow(t, after)
	}
	// The root knows, whatever it has heard, if that tells of no lesser one.
	for _, root := range []int{5, 4, 99} {
		after := copiedNet(n)
		after.Bridges[1] = impl.HearVec(after.Bridges[1], 0, rootVec(root, 0))
		knowing(t, after, 1)
	}
	n.Bridges[1] = impl.HearVec(n.Bridges[1], 0, rootVec(3, 0))
	knowing(t, n)
	rootsAre(t, n, 4, 4)
	comeToKnow(t, n)
}

// What was heard, by whatever port, changes nothing of how it is.
func TestTrueHangsOnNoVector(t *testing.T) {
	n := withCosts(ring3(), []int{3, 5}, []int{2, 2}, []int{1, 8})
	for hops := range 11 {
		told := copiedNet(n)
		told.Said = says(40)
		for b := range 3 {
			for p := range 2 {
				told.Bridges[b] = impl.HearVec(told.Bridges[b], p, impl.Vec{Root: 1 + (b+p)%3, Cost: hops * b, Hops: hops, Bridge: 9 - p, Port: b})
			}
		}
		upAre(t, told, 0, 1, 2)
		rootsAre(t, told, 1, 1, 1)
		distsAre(t, told, 3, 0, 4)
		distsAre(t, comeToKnow(t, told), 3, 0, 4)
	}
}

// A root that was told of and is none is forgotten, and all know then.
func TestWhoKnowsOfARootThatIsNone(t *testing.T) {
	for hops := range 11 {
		n := lineOf(9, 8, 7, 6, 5, 4)
		n.Bridges[3] = impl.HearVec(n.Bridges[3], 1, impl.Vec{Root: 1, Hops: hops, Bridge: 2})
		rootsAre(t, n, 4, 4, 4, 4, 4, 4)
		knowing(t, n, 5)
		comeToKnow(t, n)
	}
}

// A link that is up at one end alone is not up, though it leads on as it did ahead of it.
func TestTrueOverLinksThatAreHalfUp(t *testing.T) {
	for k, want := range [][]int{{2, 0, 1}, {1, 0, 2}, {1, 0, 1}} {
		for ups := range 3 {
			n := impl.Rounds(ring3(), 4)
			l := n.Links[k]
			n.Bridges[l.A].Ports[l.P].Up, n.Bridges[l.B].Ports[l.Q].Up = hasBit(ups, 0), hasBit(ups, 1)
			upAre(t, n, slices.Delete([]int{0, 1, 2}, k, k+1)...)
			distsAre(t, n, want...)
		}
	}
}

// A link that lacks a bridge or a port at an end is not up, and leads nowhere.
func TestTrueWhereEndsAreNotThere(t *testing.T) {
	for _, stray := range append(strayPlaces(), 3) {
		n := ring3()
		n.Links[0] = impl.Link{A: 0, P: 0, B: stray, Q: 0}
		n.Links = append(n.Links, impl.Link{A: stray, P: 1, B: 1, Q: 0}, impl.Link{A: stray, P: 0, B: stray, Q: 1})
		upAre(t, n, 1, 2)
		distsAre(t, n, 2, 0, 1)
		for end := range 2 {
			n := ring3()
			if end == 0 {
				n.Links[1].P = stray
			} else {
				n.Links[1].Q = stray
			}
			upAre(t, n, 0, 2)
			distsAre(t, n, 1, 0, 2)
		}
	}
}

// By a port at which two links end one comes over either, at the same Cost.
func TestTrueByTwoLinksAtOnePort(t *testing.T) {
	n := withCosts(impl.NetNew([]int{2, 1, 3}, 2, nil), []int{10, 1}, []int{20, 1}, []int{30, 1})
	n.Links = []impl.Link{{A: 0, P: 0, B: 1, Q: 0}, {A: 2, P: 0, B: 0, Q: 0}}
	upAre(t, n, 0, 1)
	distsAre(t, n, 10, 0, 40)
	n.Bridges[2].Id = 0
	rootsAre(t, n, 0, 0, 0)
	distsAre(t, n, 10, 30, 0)
	// The same link, under two numbers.
	n.Links[1] = n.Links[0]
	rootsAre(t, n, 1, 1, 0)
	distsAre(t, n, 10, 0, 0)
}

// A link of a bridge with itself leads to no other one, whatever it costs.
func TestTrueByALinkOfABridgeWithItself(t *testing.T) {
	for _, cost := range []int{1, 0, -5} {
		n := withCosts(ring3(), nil, nil, []int{cost, 4, cost})
		n.Links[2] = impl.Link{A: 2, P: 0, B: 2, Q: 2}
		upAre(t, n, 0, 1, 2)
		distsAre(t, n, 1, 0, 4)
	}
}

// Of two bridges of one Id both are the root, and the one counts that is nearer.
func TestTrueOfTwoOfOneId(t *testing.T) {
	n := withCosts(lineOf(1, 5, 6, 7, 8, 9), []int{1, 1}, []int{1, 1}, []int{1, 2}, []int{1, 2}, []int{1, 2}, []int{1, 1})
	n.Bridges[5].Id = 1
	rootsAre(t, n, 1, 1, 1, 1, 1, 1)
	distsAre(t, n, 0, 1, 2, 3, 2, 0)
	knowing(t, n, 0, 5)
	// One that is the root is 0 off, though the other could come to it for less.
	n.Bridges[1].Ports[0].Cost, n.Bridges[0].Ports[1].Cost = -9, -9
	distsAre(t, n, 0, -9, -8, -7, -6, 0)
	// In another part it is another one.
	n.Bridges[2].Ports[1].Up = false
	rootsAre(t, n, 1, 1, 1, 1, 1, 1)
	distsAre(t, n, 0, -9, -8, 4, 2, 0)
	// Two others of one Id are just two others.
	n = impl.NetNew([]int{3, 1, 2}, 2, ring3().Links)
	n.Bridges[2].Id = 3
	rootsAre(t, n, 1, 1, 1)
	distsAre(t, n, 1, 0, 1)
}

// An Id that none may have is the least one where it is.
func TestTrueOfIdsThatAreNone(t *testing.T) {
	for _, id := range []int{0, -1, -99, math.MinInt} {
		n := ring3()
		n.Bridges[2].Id = id
		rootsAre(t, n, id, id, id)
		distsAre(t, n, 1, 1, 0)
		knowing(t, n, 2)
		n.Links = n.Links[:1]
		rootsAre(t, n, 1, 1, id)
		distsAre(t, n, 1, 0, 0)
	}
	n := ring3()
	for b, id := range []int{1000, math.MaxInt, 1 << 32} {
		n.Bridges[b].Id = id
	}
	rootsAre(t, n, 1000, 1000, 1000)
	distsAre(t, n, 0, 1, 1)
	knowing(t, n, 0)
}

// Costs that no port may have count as they are told.
func TestTrueByCostsThatAreWrong(t *testing.T) {
	for _, cost := range []int{0, 1001, 1000000, 1 << 40, math.MaxInt, -1, -1000, -1 << 40, math.MinInt} {
		n := withCosts(pair(), []int{cost, cost})
		distsAre(t, n, cost, 0)
		distsAre(t, withCosts(pair(), nil, []int{cost, cost}), 1, 0)
		// By such a port no vector comes, so that nobody knows by it.
		knowing(t, impl.Round(n), 1)
		beyond := 1
		if cost < 0 {
			beyond = cost + 1
		}
		distsAre(t, withCosts(ring3(), []int{cost, 50}), min(cost, 51), 0, beyond)
	}
	n := withCosts(roundAbout(6, 5, 4, 3, 2, 1), slices.Repeat([][]int{{0, 0}}, 6)...)
	distsAre(t, n, 0, 0, 0, 0, 0, 0)
	knowing(t, n, 5)
	knowing(t, impl.Rounds(n, 20), 5)
}

// A sum stays at the end of what an int holds, and a way that costs less is the lesser one all the same.
func TestSumsBeyondAnInt(t *testing.T) {
	far := slices.Repeat([][]int{{math.MaxInt, math.MaxInt}}, 4)
	distsAre(t, withCosts(lineOf(1, 2, 3, 4), far...), 0, math.MaxInt, math.MaxInt, math.MaxInt)
	distsAre(t, withCosts(lineOf(1, 2, 3, 4), []int{1, 1}, []int{math.MaxInt - 1, 1}, []int{1, 1}, []int{1, 1}), 0, math.MaxInt-1, math.MaxInt, math.MaxInt)
	distsAre(t, withCosts(roundAbout(1, 2, 3, 4), far[0], far[1], far[2], []int{1, 1000000}), 0, math.MaxInt, math.MaxInt, 1000000)
	far = slices.Repeat([][]int{{math.MinInt, math.MinInt}}, 4)
	distsAre(t, withCosts(lineOf(4, 3, 2, 1), far...), math.MinInt, math.MinInt, math.MinInt, 0)
	distsAre(t, withCosts(lineOf(1, 2, 3), []int{1, 1}, []int{math.MinInt, 1}, []int{-1, 1}), 0, math.MinInt, math.MinInt)
	distsAre(t, withCosts(lineOf(1, 2, 3), []int{1, 1}, []int{math.MinInt, 1}, []int{math.MaxInt, 1}), 0, math.MinInt, -1)
}

// Where Costs are below 0 the longest way may be the least, but none leads over a bridge twice.
func TestTrueByCostsBelowNothing(t *testing.T) {
	below := slices.Repeat([][]int{{-5, -5}}, 6)
	distsAre(t, withCosts(pair(), below[:2]...), -5, 0)
	distsAre(t, withCosts(lineOf(1, 2, 3, 4, 5, 6), below...), 0, -5, -10, -15, -20, -25)
	distsAre(t, withCosts(ring3(), below[:3]...), -10, 0, -10)
	distsAre(t, withCosts(roundAbout(1, 2, 3, 4, 5, 6), below...), 0, -25, -20, -15, -20, -25)
	// There and back over one link costs less than nothing, or nothing.
	for _, back := range []int{-30, 5, 30} {
		distsAre(t, withCosts(lineOf(1, 2, 3), []int{back, back}, []int{-5, back}, []int{-5, back}), 0, -5, -10)
	}
	// Each with each of four: the least way to each leads over both others.
	n := impl.NetNew([]int{1, 2, 3, 4}, 3, []impl.Link{{A: 0, P: 0, B: 1, Q: 0}, {A: 0, P: 1, B: 2, Q: 0}, {A: 0, P: 2, B: 3, Q: 0}, {A: 1, P: 1, B: 2, Q: 1}, {A: 1, P: 2, B: 3, Q: 1}, {A: 2, P: 2, B: 3, Q: 2}})
	distsAre(t, withCosts(n, []int{-1, -1, -1}, []int{-1, -2, -4}, []int{-1, -8, -16}, []int{-1, -32, -64}), 0, -69, -49, -73)
}

// drawCosts gives each port a Cost of least and above, by a fixed rule.
func drawCosts(n impl.Net, next func(count int) int, least int, count int) {
	for b := range n.Bridges {
		for p := range n.Bridges[b].Ports {
			n.Bridges[b].Ports[p].Cost = least + next(count)
		}
	}
}

// drawing is a fixed rule by which numbers below a count come one by one.
func drawing(seed uint64) func(count int) int {
	return func(count int) int {
		seed = seed*6364136223846793005 + 1442695040888963407
		return int(seed>>33) % count
	}
}

// Nets of whatever Costs, two of one Id among them, and links told twice or that lead nowhere.
func TestTrueOfNetsByAFixedRule(t *testing.T) {
	next := drawing(16)
	for i := range 400 {
		n := drawnNet(next)
		drawCosts(n, next, -5*(i%3), 8+i%4)
		if i%5 == 0 {
			n.Bridges[0].Id = n.Bridges[len(n.Bridges)-1].Id
		}
		for range i % 4 {
			n.Links = append(n.Links, impl.Link{A: next(8) - 1, P: next(4), B: next(8) - 1, Q: next(4)})
		}
		for b := range n.Bridges {
			n.Bridges[b].Ports[0].Up = next(6) > 0
		}
		asItIs(t, n)
	}
}

func TestTrueOfWrongNets(t *testing.T) {
	for _, n := range wrongNets() {
		asItIs(t, n)
		for _, b := range strayPlaces() {
			if !hasBridge(n, b) {
				noSuchBridge(t, n, b)
			}
		}
	}
}

// manyBridges are more than there may be, with so many links by a fixed rule.
func manyBridges(count int, links int, next func(count int) int) impl.Net {
	n := impl.Net{}
	for i := range count {
		b := impl.Bridge{Id: 1 + (i*37+50)%count}
		for range 5 {
			b.Ports = append(b.Ports, silent())
		}
		n.Bridges = append(n.Bridges, b)
	}
	for range links {
		n.Links = append(n.Links, impl.Link{A: next(count), P: next(5), B: next(count), Q: next(5)})
	}
	return n
}

// wantFar has the least sums of many bridges, each from each: over those ahead of the first one, of the second one ..
func wantFar(n impl.Net) [][]int {
	far := slices.Repeat([][]int{nil}, len(n.Bridges))
	for a := range far {
		far[a] = slices.Repeat([]int{1 << 60}, len(far))
		far[a][a] = 0
	}
	for _, l := range n.Links {
		far[l.A][l.B] = min(far[l.A][l.B], n.Bridges[l.B].Ports[l.Q].Cost)
		far[l.B][l.A] = min(far[l.B][l.A], n.Bridges[l.A].Ports[l.P].Cost)
	}
	for over := range far {
		for a := range far {
			for b := range far {
				far[a][b] = min(far[a][b], far[a][over]+far[over][b])
			}
		}
	}
	return far
}

// More bridges than there may be are as near as fewer would be.
func TestTrueOfManyBridges(t *testing.T) {
	next := drawing(61)
	for i := range 30 {
		n := manyBridges(7+i, 6+i*i/8, next)
		drawCosts(n, next, i%2, 1+i*i)
		far := wantFar(n)
		for b := range n.Bridges {
			root, dist := wantRoot(n, b), 0
			for place, bridge := range n.Bridges {
				if bridge.Id == root {
					dist = far[place][b]
				}
			}
			if impl.RootTrue(n, b) != root || impl.DistTrue(n, b) != dist {
				t.Fatalf("of %+v, %+v: %d is %d from %d; want %d from %d", n.Bridges, n.Links, b, impl.DistTrue(n, b), impl.RootTrue(n, b), dist, root)
			}
		}
	}
}

// However many there are, and whatever they cost, there is an answer: of 300 in a line and in a ring, and of 30 each of which has a link to each.
func TestTrueOfVeryManyBridges(t *testing.T) {
	for _, cost := range []int{0, 1, 1000, -1} {
		n := impl.Net{}
		for i := range 300 {
			n.Bridges = append(n.Bridges, impl.Bridge{Id: 1 + i, Ports: []impl.Pt{{Up: true, Cost: cost}, {Up: true, Cost: cost}}})
			n.Links = append(n.Links, impl.Link{A: i, P: 1, B: i + 1, Q: 0})
		}
		if len(impl.UpLinks(n)) != 299 || impl.RootTrue(n, 299) != 1 || impl.DistTrue(n, 299) != 299*cost || impl.DistTrue(n, 150) != 150*cost {
			t.Errorf("a line of 300, each at %d: %d", cost, impl.DistTrue(n, 299))
		}
		n.Links[299].B = 0
		if len(impl.UpLinks(n)) != 300 || impl.DistTrue(n, 200) != min(100*cost, 200*cost) {
			t.Errorf("a ring of 300, each at %d: %d", cost, impl.DistTrue(n, 200))
		}
		n = impl.Net{}
		for i := range 30 {
			n.Bridges = append(n.Bridges, impl.Bridge{Id: 1 + i, Ports: slices.Repeat([]impl.Pt{{Up: true, Cost: cost}}, 30)})
			for other := range i {
				n.Links = append(n.Links, impl.Link{A: i, P: other, B: other, Q: i})
			}
		}
		if dist := impl.DistTrue(n, 29); len(impl.UpLinks(n)) != 435 || dist > cost || dist < min(cost, 29*cost) {
			t.Errorf("of 30 each with each, at %d: %d", cost, dist)
		}
	}
}

// Behind whatever was said, heard, lost, cut and joined each knows behind 20 Rounds.
func TestWhateverHappensEachKnows(t *testing.T) {
	next := drawing(1600)
	wrong, apart, round := 0, 0, 0
	for i := range 150 {
		n := drawnNet(next)
		if i%2 == 0 {
			drawCosts(n, next, 1, 1000)
		}
		n = hasHappened(t, n, 20+next(60), next, allKnow)
		asItIs(t, n)
		for b := range n.Bridges {
			if !impl.Knows(n, b) {
				wrong++
			}
		}
		n = impl.Rounds(n, 20)
		agreedIs(t, n, true)
		allKnow(t, n)
		for b, bridge := range n.Bridges {
			if bridge.Id == wantRoot(n, b) && b > 0 && wantRoot(n, 0) != bridge.Id {
				apart++
			}
			if v, _ := impl.BestVec(bridge.Id, bridge.Ports); v.Hops > 2 {
				round++
			}
		}
	}
	if wrong < 100 || apart < 20 || round < 20 {
		t.Errorf("%d did not know, %d were apart, %d came over several bridges", wrong, apart, round)
	}
}

// Nothing is kept from one call to another.
func TestTrueHangsOnWhatIsHandedInAlone(t *testing.T) {
	first, then := ring3(), withCosts(impl.Rounds(cutAt(t, ring3(), 0), 20), []int{1, 40})
	for range 3 {
		upAre(t, first, 0, 1, 2)
		upAre(t, then, 1, 2)
		rootsAre(t, first, 1, 1, 1)
		distsAre(t, first, 1, 0, 1)
		distsAre(t, then, 41, 0, 1)
		knowing(t, first, 1)
		knowing(t, impl.Round(then), 0, 1, 2)
	}
	a, b := impl.UpLinks(then), impl.UpLinks(then)
	overwrite(a, -7)
	if !slices.Equal(b, []int{1, 2}) {
		t.Errorf("one answer was written over, and another one is %v", b)
	}
}

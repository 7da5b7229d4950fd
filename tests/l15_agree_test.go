package tests

import (
	"math"
	"slices"
	"testing"

	"loop.example/g00326/impl"
)

// wantAgreed and the models below say the document's words once more, plainly, part by part.
func wantAgreed(n impl.Net) bool {
	agreed := true
	for k, l := range n.Links {
		if wantUp(n, k) {
			a, b := n.Bridges[l.A].Ports[l.P], n.Bridges[l.B].Ports[l.Q]
			agreed = agreed && a.Has && a.Heard == wantSaid(n, l.B, l.Q)
			agreed = agreed && b.Has && b.Heard == wantSaid(n, l.A, l.P)
		}
	}
	return agreed
}

func sendsBy(n impl.Net, b int, p int) bool {
	return p < 6 && hasBit(wantSends(n.Bridges[b].Id, n.Bridges[b].Ports), p)
}

func wantLive(n impl.Net) []int {
	var all []int
	for k, l := range n.Links {
		if wantUp(n, k) && sendsBy(n, l.A, l.P) && sendsBy(n, l.B, l.Q) {
			all = append(all, k)
		}
	}
	return all
}

func hasBridge(n impl.Net, b int) bool { return b >= 0 && b < len(n.Bridges) }

// wantJoined lets what is reached grow so often that no way can be longer.
func wantJoined(n impl.Net, b int, l []int) []int {
	if !hasBridge(n, b) {
		return nil
	}
	in := make([]bool, len(n.Bridges))
	in[b] = true
	for range n.Bridges {
		for _, k := range l {
			if k < 0 || k >= len(n.Links) || !hasBridge(n, n.Links[k].A) || !hasBridge(n, n.Links[k].B) {
				continue
			}
			either := in[n.Links[k].A] || in[n.Links[k].B]
			in[n.Links[k].A], in[n.Links[k].B] = either, either
		}
	}
	var all []int
	for place, reached := range in {
		if reached {
			all = append(all, place)
		}
	}
	return all
}

// wantLoops asks of each link for a way by those that are another one.
func wantLoops(n impl.Net, l []int) bool {
	for _, k := range l {
		if k < 0 || k >= len(n.Links) {
			continue
		}
		var others []int
		for _, other := range l {
			if other != k {
				others = append(others, other)
			}
		}
		if slices.Contains(wantJoined(n, n.Links[k].A, others), n.Links[k].B) {
			return true
		}
	}
	return false
}

// upLinks are all links that are up.
func upLinks(n impl.Net) []int {
	var all []int
	for k := range n.Links {
		if wantUp(n, k) {
			all = append(all, k)
		}
	}
	return all
}

// asksOf hands n and l to a call, with spare room behind the lists and without, and
// wants nothing written there, neither by the call nor by who writes over the answer.
func asksOf(t *testing.T, n impl.Net, l []int, call func(n impl.Net, l []int) []int) []int {
	t.Helper()
	room := append(slices.Clone(l), 0, 1, 2)
	keptList := slices.Clone(room)
	var answer []int
	for i, handed := range []impl.Net{inRoom(n), copiedNet(n)} {
		kept := copiedNet(allOf(handed))
		got := call(handed, room[:len(l):len(l)+3*(1-i)])
		answer = slices.Clone(got)
		overwrite(got, -7)
		if !sameNet(allOf(handed), kept) || !slices.Equal(room, keptList) {
			t.Fatalf("%+v, %v were written: %+v, %v", kept, keptList, allOf(handed), room)
		}
	}
	return answer
}

// agreedIs wants Agreed to answer so, as its model does.
func agreedIs(t *testing.T, n impl.Net, want bool) {
	t.Helper()
	got := !want
	asksOf(t, n, nil, func(n impl.Net, l []int) []int {
		got = impl.Agreed(n)
		return nil
	})
	if got != want || wantAgreed(n) != want {
		t.Errorf("Agreed(%+v) = %v; want %v, the model has %v", n, got, want, wantAgreed(n))
	}
}

// liveAre wants just these links to be live, as the model has them.
func liveAre(t *testing.T, n impl.Net, want ...int) {
	t.Helper()
	got := asksOf(t, n, nil, func(n impl.Net, l []int) []int { return impl.Live(n) })
	if !slices.Equal(got, want) || !slices.Equal(wantLive(n), want) {
		t.Errorf("Live(%+v) = %v; want %v, the model has %v", n, got, want, wantLive(n))
	}
}

// joinedAre wants just these to be reached, as the model has them.
func joinedAre(t *testing.T, n impl.Net, b int, l []int, want ...int) {
	t.Helper()
	got := asksOf(t, n, l, func(n impl.Net, l []int) []int { return impl.Joined(n, b, l) })
	if !slices.Equal(got, want) || !slices.Equal(wantJoined(n, b, l), want) {
		t.Errorf("Joined(%+v, %d, %v) = %v; want %v, the model has %v", n, b, l, got, want, wantJoined(n, b, l))
	}
}

// loopsIs wants Loops to answer so, as its model does.
func loopsIs(t *testing.T, n impl.Net, want bool, l ...int) {
	t.Helper()
	got := !want
	asksOf(t, n, l, func(n impl.Net, l []int) []int {
		got = impl.Loops(n, l)
		return nil
	})
	if got != want || wantLoops(n, l) != want {
		t.Errorf("Loops(%+v, %v) = %v; want %v, the model has %v", n, l, got, want, wantLoops(n, l))
	}
}

// asModels wants all that is asked of n and these links to be as the models have it.
func asModels(t *testing.T, n impl.Net, l []int) {
	t.Helper()
	agreedIs(t, n, wantAgreed(n))
	liveAre(t, n, wantLive(n)...)
	loopsIs(t, n, wantLoops(n, l), l...)
	for b := -1; b <= len(n.Bridges); b++ {
		joinedAre(t, n, b, l, wantJoined(n, b, l)...)
	}
}

// isTree wants Live to have no Loops, and to join just what all links that are up join.
func isTree(t *testing.T, n impl.Net) {
	t.Helper()
	live := impl.Live(n)
	loopsIs(t, n, false, live...)
	for b := range n.Bridges {
		joinedAre(t, n, b, live, wantJoined(n, b, upLinks(n))...)
	}
}

// agreesBehind wants n not to agree ahead of so many rounds, and from then on.
func agreesBehind(t *testing.T, n impl.Net, rounds int) impl.Net {
	t.Helper()
	for k := range rounds {
		agreedIs(t, impl.Rounds(n, k), false)
	}
	for k := rounds; k <= max(rounds+2, 20); k++ {
		after := impl.Rounds(n, k)
		agreedIs(t, after, true)
		isTree(t, after)
	}
	return impl.Rounds(n, rounds)
}

// cutAt is n with this link cut.
func cutAt(t *testing.T, n impl.Net, k int) impl.Net {
	t.Helper()
	after, ok := impl.Step(n, impl.Event{Kind: impl.EvCut, At: k})
	if !ok || impl.LinkUp(after, k) {
		t.Fatalf("the link %d of %+v cannot be cut", k, n)
	}
	return after
}

func TestTwoAgree(t *testing.T) {
	n := pair()
	agreedIs(t, n, false)
	liveAre(t, n, 0)
	// Behind the first round 2 says something else than 1 has heard of it.
	n = impl.Round(n)
	heardIs(t, n, 1, 0, rootVec(2, 1))
	agreedIs(t, n, false)
	n = impl.Round(n)
	heardIs(t, n, 1, 0, impl.Vec{Root: 1, Cost: 1, Hops: 1, Bridge: 2, Port: 1})
	agreedIs(t, n, true)
	liveAre(t, n, 0)
	isTree(t, n)
	agreesBehind(t, pair(), 2)
}

// One end that has heard is not enough, be it A or B.
func TestBothEndsMustHear(t *testing.T) {
	both := impl.Rounds(pair(), 2)
	for _, end := range [][2]int{{0, 1}, {1, 0}} {
		n := copiedNet(both)
		n.Bridges[end[0]].Ports[end[1]] = silent()
		agreedIs(t, n, false)
	}
	// The root has said all there is to say, and has heard nothing.
	n := impl.Steps(pair(), []impl.Event{{Kind: impl.EvSay, At: 1}, {Kind: impl.EvHear}})
	heardIs(t, n, 0, 1, rootVec(1, 0))
	agreedIs(t, n, false)
	// What is on its way is not heard yet.
	n = impl.Steps(n, []impl.Event{{Kind: impl.EvSay, At: 0}})
	agreedIs(t, n, false)
	agreedIs(t, impl.Steps(n, []impl.Event{{Kind: impl.EvLose}}), false)
	n = impl.Steps(n, []impl.Event{{Kind: impl.EvHear}})
	agreedIs(t, n, true)
	// What is on its way besides is not asked for.
	n.Said = says(40)
	agreedIs(t, n, true)
}

// All parts of a vector count, those too by which vectors are not ordered.
func TestHeardInAllItsParts(t *testing.T) {
	for _, end := range [][2]int{{0, 1}, {1, 0}} {
		for _, field := range vecFields() {
			for _, number := range []int{field.least, field.least + 1, field.least + 2, field.most, field.most + 1} {
				n := impl.Rounds(pair(), 2)
				port := &n.Bridges[end[0]].Ports[end[1]]
				was := port.Heard
				field.set(&port.Heard, number)
				agreedIs(t, n, port.Heard == was)
			}
		}
	}
}

// What stands there of which nothing was heard was not heard.
func TestNotHeardThoughItStandsThere(t *testing.T) {
	for _, end := range [][2]int{{0, 1}, {1, 0}} {
		n := impl.Rounds(pair(), 2)
		n.Bridges[end[0]].Ports[end[1]].Has = false
		agreedIs(t, n, false)
	}
	// Without a vector at either end nothing else of the bridges is another.
	n := pair()
	n.Bridges[0].Ports[1].Heard, n.Bridges[1].Ports[0].Heard = rootVec(1, 0), rootVec(2, 1)
	agreedIs(t, n, false)
}

// A line of so many agrees when the root's word went to its far end, and one step back.
func TestALineAgrees(t *testing.T) {
	for count := 2; count <= 6; count++ {
		ids := []int{1, 2, 3, 4, 5, 6}[:count]
		there := agreesBehind(t, lineOf(ids...), count)
		slices.Reverse(ids)
		back := agreesBehind(t, lineOf(ids...), count)
		for _, n := range []impl.Net{there, back} {
			liveAre(t, n, []int{0, 1, 2, 3, 4}[:count-1]...)
		}
	}
	n := agreesBehind(t, lineOf(4, 9, 1, 7, 2), 3)
	liveAre(t, n, 0, 1, 2, 3)
	agreesBehind(t, star(), 3)
}

func TestARingAgrees(t *testing.T) {
	n := ring3()
	liveAre(t, n, 0, 1, 2)
	loopsIs(t, n, true, 0, 1, 2)
	n = agreesBehind(t, n, 2)
	liveAre(t, n, 0, 1)
	if impl.RoleOf(3, n.Bridges[0].Ports, 1) != impl.RoIdle || impl.RoleOf(2, n.Bridges[2].Ports, 0) != impl.RoTold {
		t.Errorf("the roles at the link 2: %+v", n)
	}
	// Wherever the root stands, the link that is left out is the one across from it.
	for root, live := range [][]int{{0, 2}, {0, 1}, {1, 2}} {
		ids := []int{7, 8, 9}
		ids[root] = 1
		n := agreesBehind(t, impl.NetNew(ids, 2, ring3().Links), 2)
		liveAre(t, n, live...)
	}
}

// By what it costs a longer way may be the better one.
func TestCostsChooseWhatIsLive(t *testing.T) {
	n := ring3()
	n.Bridges[0].Ports[0].Cost = 3
	n = agreesBehind(t, n, 3)
	liveAre(t, n, 1, 2)
	n = ring3()
	n.Bridges[2].Ports[1].Cost = 1000
	n = agreesBehind(t, n, 3)
	liveAre(t, n, 0, 2)
	// At as much as the other way costs the lesser bridge is heard: 1 itself.
	n = ring3()
	n.Bridges[0].Ports[0].Cost = 2
	n = agreesBehind(t, n, 2)
	liveAre(t, n, 0, 1)
}

// Of links between the same two one is live.
func TestLinksBetweenTheSameTwoAgree(t *testing.T) {
	var l []impl.Link
	for p := range 6 {
		l = append(l, impl.Link{A: 0, P: p, B: 1, Q: 5 - p})
		n := agreesBehind(t, impl.NetNew([]int{2, 1}, 6, l), 2)
		// The least port of the root's is the one of the last link.
		liveAre(t, n, p)
		loopsIs(t, n, p > 0, upLinks(n)...)
	}
}

// Nine links of six bridges: five are live, and all four others are up.
func TestManyLinksAgree(t *testing.T) {
	n := impl.NetNew([]int{4, 2, 6, 1, 5, 3}, 3, nineLinks())
	loopsIs(t, n, true, upLinks(n)...)
	n = agreesBehind(t, n, 3)
	if live := impl.Live(n); len(live) != 5 || len(upLinks(n)) != 9 {
		t.Errorf("%v are live of %v", live, upLinks(n))
	}
	joinedAre(t, n, 5, impl.Live(n), 0, 1, 2, 3, 4, 5)
}

// A link that leads no vector to the root may be cut, and they agree as they did.
func TestALinkThatIsNotLiveIsCut(t *testing.T) {
	n := impl.Rounds(ring3(), 4)
	liveAre(t, n, 0, 1)
	n = cutAt(t, n, 2)
	agreedIs(t, n, true)
	liveAre(t, n, 0, 1)
	isTree(t, n)
	// Joined again nothing was heard there: both ends speak.
	n, _ = impl.Step(n, impl.Event{Kind: impl.EvJoin, At: 2})
	agreedIs(t, n, false)
	liveAre(t, n, 0, 1, 2)
	loopsIs(t, n, true, impl.Live(n)...)
	n = agreesBehind(t, n, 1)
	liveAre(t, n, 0, 1)
}

// A live link that is cut leaves the others with what its ends said ahead of it: behind
// the link 1 is cut the bridge 0 holds its port idle until it hears what 2 says by then.
func TestALiveLinkIsCut(t *testing.T) {
	for k, live := range [][2][]int{{{1, 2}, {1, 2}}, {{0}, {0, 2}}} {
		n := cutAt(t, impl.Rounds(ring3(), 4), k)
		agreedIs(t, n, false)
		liveAre(t, n, live[0]...)
		n = agreesBehind(t, n, 1)
		liveAre(t, n, live[1]...)
		n = impl.Rounds(cutAt(t, n, 1-k), 20)
		agreedIs(t, n, true)
		liveAre(t, n, 2)
		joinedAre(t, n, 1, impl.Live(n), 1)
		joinedAre(t, n, 0, impl.Live(n), 0, 2)
	}
}

// A bridge far from the root goes on telling of it until its vector has gone too far.
func TestARootThatIsCutOff(t *testing.T) {
	n := impl.Rounds(lineOf(1, 2, 3, 4, 5, 6), 20)
	n = cutAt(t, n, 0)
	agreedIs(t, n, false)
	agreedIs(t, impl.Rounds(n, 5), false)
	n = impl.Rounds(n, 20)
	agreedIs(t, n, true)
	isTree(t, n)
	liveAre(t, n, 1, 2, 3, 4)
	if v, _ := impl.BestVec(n.Bridges[5].Id, n.Bridges[5].Ports); v.Root != 2 {
		t.Errorf("at the far end the root is %+v", v)
	}
}

// Whatever root was told that is none is forgotten within 20 Rounds, however few bridges it has come over.
func TestARootThatIsNone(t *testing.T) {
	for hops := range 11 {
		for _, n := range []impl.Net{lineOf(9, 8, 7, 6, 5, 4), impl.NetNew([]int{9, 8, 7, 6, 5, 4}, 3, nineLinks()), impl.NetNew([]int{5, 4}, 2, []impl.Link{{A: 0, P: 0, B: 1, Q: 0}, {A: 0, P: 1, B: 1, Q: 1}})} {
			for k, l := range n.Links {
				n.Bridges[l.A] = impl.HearVec(n.Bridges[l.A], l.P, impl.Vec{Root: 1 + k%3, Hops: hops, Bridge: 1})
				n.Bridges[l.B] = impl.HearVec(n.Bridges[l.B], l.Q, impl.Vec{Root: 1 + k%2, Hops: hops, Bridge: 2})
			}
			agreedIs(t, n, false)
			n = impl.Rounds(n, 20)
			agreedIs(t, n, true)
			isTree(t, n)
		}
	}
}

func TestCutAllAndJoinAll(t *testing.T) {
	n := impl.Rounds(ring3(), 4)
	for k := range 3 {
		n = cutAt(t, n, k)
	}
	agreedIs(t, n, true)
	liveAre(t, n)
	isTree(t, n)
	for k := range 3 {
		n, _ = impl.Step(n, impl.Event{Kind: impl.EvJoin, At: k})
		agreedIs(t, n, false)
	}
	liveAre(t, n, 0, 1, 2)
	n = agreesBehind(t, n, 2)
	liveAre(t, n, 0, 1)
}

// A port that is down though a vector stands there is no end of a live link, and tells its bridge of no root.
func TestDownWithWhatWasHeard(t *testing.T) {
	for ups := range 3 {
		n := impl.Rounds(pair(), 2)
		n.Bridges[0].Ports[1].Up, n.Bridges[1].Ports[0].Up = hasBit(ups, 0), hasBit(ups, 1)
		agreedIs(t, n, true)
		liveAre(t, n)
	}
	// In a ring the others are asked what they say without it.
	for k, live := range [][]int{{1, 2}, {0}, {0, 1}} {
		for ups := range 3 {
			n := impl.Rounds(ring3(), 4)
			l := n.Links[k]
			n.Bridges[l.A].Ports[l.P].Up, n.Bridges[l.B].Ports[l.Q].Up = hasBit(ups, 0), hasBit(ups, 1)
			asModels(t, n, upLinks(n))
			if ups == 0 {
				agreedIs(t, n, k == 2)
				liveAre(t, n, live...)
			}
		}
	}
}

// A link is live where both its ends send: each of the four ways of its ends. By its other
// port each bridge has heard of the root 1, so that it is told here, or idle, by what it has heard here.
func TestOneEndAloneSends(t *testing.T) {
	worse, better := rootVec(2, 0), impl.Vec{Root: 1, Bridge: 2}
	for sends := range 4 {
		n := impl.Net{Bridges: []impl.Bridge{yardOf(8, silent(), silent()), yardOf(9, silent(), silent())}, Links: []impl.Link{{A: 0, P: 1, B: 1, Q: 0}}}
		for b, p := range []int{1, 0} {
			n.Bridges[b].Ports[1-p] = heardAt(rootVec(1, 0))
			n.Bridges[b].Ports[p] = heardAt(better)
			if hasBit(sends, b) {
				n.Bridges[b].Ports[p] = heardAt(worse)
			}
			if hasBit(impl.Sends(n.Bridges[b].Id, n.Bridges[b].Ports), p) != hasBit(sends, b) {
				t.Fatalf("the bridge %d: %+v", b, n.Bridges[b])
			}
		}
		if sends == 3 {
			liveAre(t, n, 0)
		} else {
			liveAre(t, n)
		}
		agreedIs(t, n, false)
	}
}

// Of a bridge with more ports than there may be those behind the first six are none of Sends.
func TestPortsBeyondTheLast(t *testing.T) {
	for port, live := range map[int]bool{0: true, 5: true, 6: false, 7: false, 70: false} {
		n := impl.NetNew([]int{1, 2}, 1, []impl.Link{{A: 0, P: 0, B: 1, Q: 0}})
		for len(n.Bridges[1].Ports) <= port {
			n.Bridges[1].Ports = append(n.Bridges[1].Ports, silent())
		}
		n.Links[0].Q = port
		if live {
			liveAre(t, n, 0)
		} else {
			liveAre(t, n)
		}
		agreedIs(t, n, false)
		n.Bridges[1].Ports[port] = heardAt(rootVec(1, 0))
		n.Bridges[0].Ports[0] = heardAt(impl.Vec{Root: 1, Cost: 1, Hops: 1, Bridge: 2, Port: port})
		agreedIs(t, n, true)
		joinedAre(t, n, 0, []int{0}, 0, 1)
	}
}

func TestNoLinkAtAll(t *testing.T) {
	for count := 1; count <= 6; count++ {
		n := impl.NetNew([]int{6, 5, 4, 3, 2, 1}[:count], 3, nil)
		agreedIs(t, n, true)
		liveAre(t, n)
		for b := range count {
			joinedAre(t, n, b, nil, b)
			joinedAre(t, n, b, []int{}, b)
			joinedAre(t, n, b, []int{0, 1, -1, 9}, b)
		}
		joinedAre(t, n, count, nil)
		joinedAre(t, n, -1, nil)
		loopsIs(t, n, false)
		loopsIs(t, n, false, 0, 0, 1, -1)
		agreesBehind(t, n, 0)
	}
}

func TestNoBridgeAtAll(t *testing.T) {
	for _, n := range []impl.Net{{}, {Bridges: []impl.Bridge{}}, {Links: []impl.Link{{A: 0, P: 0, B: 1, Q: 0}, {A: 1, P: 1, B: 0, Q: 1}, {}}}} {
		agreedIs(t, n, true)
		liveAre(t, n)
		for _, b := range append(strayPlaces(), 0, 1) {
			joinedAre(t, n, b, nil)
			joinedAre(t, n, b, []int{0, 1, 2})
		}
		loopsIs(t, n, false)
		loopsIs(t, n, false, 0, 1, 2)
	}
}

// Of a line of five what is reached over one link, over several, over all, and over none.
func TestJoinedInALine(t *testing.T) {
	n := lineOf(5, 4, 3, 2, 1)
	for b := range 5 {
		joinedAre(t, n, b, nil, b)
		joinedAre(t, n, b, []int{0, 1, 2, 3}, 0, 1, 2, 3, 4)
	}
	for k := range 4 {
		joinedAre(t, n, k, []int{k}, k, k+1)
		joinedAre(t, n, k+1, []int{k}, k, k+1)
		joinedAre(t, n, (k+2)%5, []int{k}, (k+2)%5)
	}
	joinedAre(t, n, 0, []int{0, 1, 3}, 0, 1, 2)
	joinedAre(t, n, 2, []int{0, 1, 3}, 0, 1, 2)
	joinedAre(t, n, 3, []int{0, 1, 3}, 3, 4)
	joinedAre(t, n, 4, []int{0, 1, 3}, 3, 4)
	joinedAre(t, n, 0, []int{1, 2, 3}, 0)
	joinedAre(t, n, 4, []int{1, 2, 3}, 1, 2, 3, 4)
}

// However the links are told, far ones first or near ones, what is reached is ascending.
func TestJoinedInWhateverOrder(t *testing.T) {
	n := impl.NetNew([]int{1, 2, 3, 4, 5, 6}, 2, []impl.Link{{A: 5, P: 0, B: 2, Q: 0}, {A: 2, P: 1, B: 4, Q: 0}, {A: 0, P: 0, B: 4, Q: 1}, {A: 1, P: 0, B: 0, Q: 1}, {A: 3, P: 0, B: 1, Q: 1}})
	l := []int{0, 1, 2, 3, 4}
	for range 120 {
		for b := range 6 {
			joinedAre(t, n, b, l, 0, 1, 2, 3, 4, 5)
			joinedAre(t, n, b, append(l, 0), 0, 1, 2, 3, 4, 5)
		}
		joinedAre(t, n, 2, l[:2], wantJoined(n, 2, l[:2])...)
		loopsIs(t, n, false, l...)
		l = nextOrder(l)
	}
	if !slices.Equal(l, []int{0, 1, 2, 3, 4}) {
		t.Errorf("not all orders were told: %v", l)
	}
}

// nextOrder is the same numbers in the next greater order; behind the last one comes the first.
func nextOrder(l []int) []int {
	l = slices.Clone(l)
	at := len(l) - 2
	for at >= 0 && l[at] > l[at+1] {
		at--
	}
	if at >= 0 {
		with := len(l) - 1
		for l[with] < l[at] {
			with--
		}
		l[at], l[with] = l[with], l[at]
	}
	slices.Reverse(l[at+1:])
	return l
}

// The first bridge, the last one, and one beyond either.
func TestPlacesOfJoined(t *testing.T) {
	n := impl.Rounds(ring3(), 4)
	joinedAre(t, n, 0, []int{0}, 0, 1)
	joinedAre(t, n, 2, []int{0}, 2)
	joinedAre(t, n, 2, []int{1}, 1, 2)
	for _, b := range append(strayPlaces(), 3) {
		joinedAre(t, n, b, nil)
		joinedAre(t, n, b, []int{0, 1, 2})
	}
}

// A number of which there is no link is passed over, wherever it stands.
func TestLinksThatAreNotThere(t *testing.T) {
	n := ring3()
	for _, stray := range append(strayPlaces(), 3, 4) {
		joinedAre(t, n, 0, []int{stray}, 0)
		loopsIs(t, n, false, stray)
		loopsIs(t, n, false, stray, stray)
		for at := range 3 {
			joinedAre(t, n, 0, slices.Insert([]int{0, 1}, at, stray), 0, 1, 2)
			loopsIs(t, n, false, slices.Insert([]int{0, 1}, at, stray)...)
			loopsIs(t, n, true, slices.Insert([]int{0, 1, 2}, at, stray)...)
		}
	}
}

// A link that is told twice is one link: by itself it leads nowhere round.
func TestTheSameLinkTwice(t *testing.T) {
	n := ring3()
	for k, l := range n.Links {
		loopsIs(t, n, false, k, k)
		loopsIs(t, n, false, k, k, k)
		loopsIs(t, n, false, k, (k+1)%3, k)
		loopsIs(t, n, false, k, (k+1)%3, k, (k+1)%3)
		loopsIs(t, n, true, k, (k+1)%3, k, (k+2)%3)
		ends := []int{min(l.A, l.B), max(l.A, l.B)}
		joinedAre(t, n, l.A, []int{k, k}, ends...)
		joinedAre(t, n, l.B, []int{k, k, k}, ends...)
	}
	many := slices.Repeat([]int{0, 1}, 50000)
	if impl.Loops(n, many) || !impl.Loops(n, append(many, 2)) || !slices.Equal(impl.Joined(n, 0, many), []int{0, 1, 2}) {
		t.Error("two links are told very often")
	}
}

// Which links are told counts, not whether they are up.
func TestLinksThatAreDownAreToldToo(t *testing.T) {
	n := ring3()
	for k := range 3 {
		n = cutAt(t, n, k)
	}
	joinedAre(t, n, 0, []int{0}, 0, 1)
	joinedAre(t, n, 0, []int{0, 1}, 0, 1, 2)
	loopsIs(t, n, true, 0, 1, 2)
	loopsIs(t, n, false, 0, 1)
	joinedAre(t, n, 0, impl.Live(n), 0)
}

// Two links between the same two lead round, whichever way each is told.
func TestLoopsOfTwoLinks(t *testing.T) {
	for i := range 4 {
		l := []impl.Link{{A: 0, P: 0, B: 1, Q: 0}, {A: 0, P: 1, B: 1, Q: 1}, {A: 1, P: 2, B: 2, Q: 0}}
		for k := range 2 {
			if hasBit(i, k) {
				l[k] = impl.Link{A: l[k].B, P: l[k].Q, B: l[k].A, Q: l[k].P}
			}
		}
		n := impl.NetNew([]int{3, 1, 2}, 3, l)
		loopsIs(t, n, true, 0, 1)
		loopsIs(t, n, true, 1, 0)
		loopsIs(t, n, true, 2, 0, 1)
		loopsIs(t, n, true, 0, 1, 2)
		loopsIs(t, n, false, 0, 2)
		loopsIs(t, n, false, 1, 2)
		loopsIs(t, n, false, 0)
	}
}

// Links that meet at a bridge, or lead round elsewhere than where the first ones lie.
func TestLoopsAmongSeveral(t *testing.T) {
	loopsIs(t, star(), false, 0, 1, 2)
	n := impl.NetNew([]int{6, 5, 4, 3, 2, 1}, 4, []impl.Link{{A: 1, P: 0, B: 0, Q: 0}, {A: 0, P: 1, B: 2, Q: 0}, {A: 3, P: 0, B: 4, Q: 0}, {A: 5, P: 0, B: 3, Q: 1}, {A: 4, P: 1, B: 5, Q: 1}, {A: 2, P: 1, B: 3, Q: 2}})
	loopsIs(t, n, false, 0, 1, 2, 3)
	// The first two do not come to the ring.
	loopsIs(t, n, true, 0, 1, 2, 3, 4)
	loopsIs(t, n, true, 4, 3, 2)
	loopsIs(t, n, false, 0, 1, 5, 2, 3)
	loopsIs(t, n, false, 5, 4, 0, 1, 2)
	loopsIs(t, n, true, 0, 1, 5, 4, 3, 2)
}

// All choices of nine links, from each bridge.
func TestAllChoicesOfNineLinks(t *testing.T) {
	n := impl.NetNew([]int{4, 2, 6, 1, 5, 3}, 3, nineLinks())
	round := 0
	for bits := range 512 {
		var l []int
		for k := range 9 {
			if hasBit(bits, k) {
				l = append(l, k)
			}
		}
		got := impl.Loops(n, l)
		if got != wantLoops(n, l) || got && len(l) < 4 || !got && len(l) > 5 {
			t.Fatalf("Loops(%v) = %v", l, got)
		}
		if got {
			round++
		}
		for b := range 6 {
			if all := impl.Joined(n, b, l); !slices.Equal(all, wantJoined(n, b, l)) {
				t.Fatalf("Joined(%d, %v) = %v", b, l, all)
			}
		}
	}
	// There are 328 forests of two times three that are joined each with each.
	if 512-round != 328 {
		t.Errorf("%d choices lead nowhere round", 512-round)
	}
}

// All short lists of numbers of a ring, those too that are not there.
func TestAllShortListsOfLinks(t *testing.T) {
	n := ring3()
	for i := range 5 * 5 * 5 * 5 {
		l := []int{i%5 - 1, i/5%5 - 1, i/25%5 - 1, i/125 - 1}
		all := slices.Contains(l, 0) && slices.Contains(l, 1) && slices.Contains(l, 2)
		loopsIs(t, n, all, l...)
		for b := -1; b <= 3; b++ {
			joinedAre(t, n, b, l, wantJoined(n, b, l)...)
		}
	}
}

// A link that has no bridge at an end leads nowhere, and nothing is reached across it.
func TestEndsThatAreNotThere(t *testing.T) {
	for _, stray := range append(strayPlaces(), 3) {
		n := ring3()
		n.Links = []impl.Link{{A: 0, P: 0, B: stray, Q: 0}, {A: stray, P: 1, B: 1, Q: 0}, {A: 2, P: 0, B: 0, Q: 1}, {A: stray, P: 2, B: stray, Q: 3}}
		joinedAre(t, n, 0, []int{0, 1, 2, 3}, 0, 2)
		joinedAre(t, n, 1, []int{0, 1, 2, 3}, 1)
		joinedAre(t, n, stray, []int{0, 1, 2, 3})
		loopsIs(t, n, false, 0, 1, 2, 3)
		loopsIs(t, n, false, 3)
		liveAre(t, n, 2)
		agreedIs(t, n, false)
		n.Bridges[0].Ports[1] = heardAt(rootVec(2, 0))
		n.Bridges[2].Ports[0] = heardAt(impl.Vec{Root: 2, Cost: 1, Hops: 1, Bridge: 3, Port: 1})
		agreedIs(t, n, true)
		liveAre(t, n, 2)
		// Two links to where no bridge is do not meet there.
		n.Links[1] = impl.Link{A: stray, P: 1, B: 0, Q: 2}
		loopsIs(t, n, false, 0, 1, 2)
	}
}

// A link that has no port at an end is not up; its bridges are there all the same.
func TestLinksWithoutAPort(t *testing.T) {
	for _, stray := range []int{-1, -2, 3, 6, 64, 1 << 32, math.MaxInt, math.MinInt} {
		for end := range 2 {
			n := impl.Rounds(ring3(), 4)
			if end == 0 {
				n.Links[1].P = stray
			} else {
				n.Links[1].Q = stray
			}
			liveAre(t, n, 0)
			agreedIs(t, n, true)
			joinedAre(t, n, 2, []int{1}, 1, 2)
			loopsIs(t, n, true, 0, 1, 2)
		}
	}
}

// Two links at one port each ask it what it heard.
func TestTwoLinksAtOnePort(t *testing.T) {
	n := impl.NetNew([]int{1, 2, 3}, 2, nil)
	n.Links = []impl.Link{{A: 0, P: 0, B: 1, Q: 0}, {A: 2, P: 0, B: 0, Q: 0}}
	liveAre(t, n, 0, 1)
	joinedAre(t, n, 1, []int{0, 1}, 0, 1, 2)
	loopsIs(t, n, false, 0, 1)
	n.Bridges[1].Ports[0], n.Bridges[2].Ports[0] = heardAt(rootVec(1, 0)), heardAt(rootVec(1, 0))
	for id := 2; id <= 3; id++ {
		n.Bridges[0].Ports[0] = heardAt(impl.Vec{Root: 1, Cost: 1, Hops: 1, Bridge: id})
		agreedIs(t, n, false)
	}
	// Two that say the same, since they have one Id, are heard at once.
	n.Bridges[1].Id = 3
	agreedIs(t, n, true)
	// The same link, under two numbers, is two.
	n.Links[1] = n.Links[0]
	loopsIs(t, n, true, 0, 1)
	loopsIs(t, n, false, 1, 1)
	asModels(t, n, []int{0, 1})
}

// A link of a bridge with itself leads round by no other link at all.
func TestLinksOfABridgeWithItselfLeadRound(t *testing.T) {
	n := ring3()
	n.Links[2] = impl.Link{A: 2, P: 0, B: 2, Q: 2}
	loopsIs(t, n, true, 2)
	loopsIs(t, n, true, 0, 2)
	loopsIs(t, n, false, 0, 1)
	joinedAre(t, n, 2, []int{2}, 2)
	joinedAre(t, n, 2, []int{1, 2}, 1, 2)
	asModels(t, n, []int{0, 1, 2})
}

// Of what is no net they answer as of one, whatever is wrong with it.
func TestAskedWhetherWrongNetsAgree(t *testing.T) {
	for i, n := range wrongNets() {
		if impl.NetOk(n) {
			t.Errorf("the net %d is right: %+v", i, n)
		}
		for _, l := range [][]int{nil, {0}, {1, 2}, {0, 1, 2}, {2, 2, -1, 5, 0, 11}} {
			asModels(t, n, l)
		}
	}
	// Many bridges and many links, of which each leads to the next one.
	n := impl.Net{}
	var all []int
	for k := range 300 {
		n.Bridges = append(n.Bridges, yardOf(1+k%99, silent(), silent()))
		n.Links = append(n.Links, impl.Link{A: k, P: 0, B: k + 1, Q: 1})
		all = append(all, k)
	}
	if got := impl.Joined(n, 150, all); len(got) != 300 || got[0] != 0 || got[299] != 299 || impl.Loops(n, all) {
		t.Errorf("a line of 300: %v", got)
	}
	n.Links[299].B = 0
	if len(impl.Live(n)) != 300 || !impl.Loops(n, all) || impl.Agreed(n) {
		t.Error("a ring of 300")
	}
}

// hasHappened lets so many events happen to n by a fixed rule, and wants what follows whenever they agree.
func hasHappened(t *testing.T, n impl.Net, count int, next func(count int) int, follows func(t *testing.T, n impl.Net)) impl.Net {
	t.Helper()
	for range count {
		kind := next(7)
		if next(2) == 0 {
			kind = impl.EvSay + next(2)
		}
		n, _ = impl.Step(n, impl.Event{Kind: kind, At: next(howMany(n, kind) + 1)})
		if impl.Agreed(n) {
			follows(t, n)
		}
	}
	return n
}

// Behind whatever was said, heard, lost, cut and joined 20 Rounds are enough.
func TestWhateverHappensTheyAgree(t *testing.T) {
	draw := uint64(15)
	next := func(count int) int {
		draw = draw*6364136223846793005 + 1442695040888963407
		return int(draw>>33) % count
	}
	late, apart, spare, kept := 0, 0, 0, 0
	for range 250 {
		n := hasHappened(t, drawnNet(next), 20+next(60), next, isTree)
		var l []int
		for range next(8) {
			l = append(l, next(len(n.Links)+2)-1)
		}
		asModels(t, n, l)
		if !impl.Agreed(impl.Rounds(n, 4)) {
			late++
		}
		n = impl.Rounds(n, 20)
		agreedIs(t, n, true)
		liveAre(t, n, wantLive(n)...)
		isTree(t, n)
		if len(wantJoined(n, 0, upLinks(n))) < len(n.Bridges) {
			apart++
		}
		if len(upLinks(n)) > len(impl.Live(n)) {
			spare++
		}
		// Once more, from where they agree: ticks and what is lost change nothing of it.
		if len(n.Links) > 0 {
			n = cutAt(t, impl.Steps(n, []impl.Event{{Kind: impl.EvSay}, {Kind: impl.EvLose}, {Kind: impl.EvTick}, {Kind: impl.EvJoin}}), 0)
			asModels(t, n, upLinks(n))
			if impl.Agreed(n) {
				kept++
			}
			n = impl.Rounds(n, 20)
			agreedIs(t, n, true)
			isTree(t, n)
		}
	}
	if late < 20 || apart < 20 || spare < 20 || kept < 20 {
		t.Errorf("%d agreed late, %d were apart, %d had links to spare, %d agreed behind a cut", late, apart, spare, kept)
	}
}

// Nothing is kept from one call to another.
func TestAgreedHangsOnWhatIsHandedInAlone(t *testing.T) {
	first, then := ring3(), impl.Rounds(ring3(), 4)
	for range 3 {
		agreedIs(t, first, false)
		agreedIs(t, then, true)
		liveAre(t, first, 0, 1, 2)
		liveAre(t, then, 0, 1)
		joinedAre(t, then, 0, []int{0, 1}, 0, 1, 2)
		joinedAre(t, then, 0, []int{2}, 0, 2)
		loopsIs(t, then, true, 0, 1, 2)
		loopsIs(t, then, false, 0, 1)
	}
	a, b := impl.Joined(then, 0, []int{0, 1}), impl.Joined(then, 0, []int{0, 1})
	overwrite(a, -7)
	c, d := impl.Live(then), impl.Live(then)
	overwrite(c, -7)
	if !slices.Equal(b, []int{0, 1, 2}) || !slices.Equal(d, []int{0, 1}) {
		t.Errorf("one answer was written over, and another one is %v, %v", b, d)
	}
}

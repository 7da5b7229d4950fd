package tests

import (
	"math"
	"slices"
	"testing"

	"loop.example/g00326/impl"
)

// wantSaid and the models below say the document's words once more, plainly, part by part.
func wantSaid(n impl.Net, b int, p int) impl.Vec {
	return wantSay(n.Bridges[b].Id, n.Bridges[b].Ports, p)
}

func wantSays(n impl.Net, at int) []impl.Say {
	all := slices.Clone(n.Said)
	for k, l := range n.Links {
		if !wantUp(n, k) {
			continue
		}
		if l.A == at {
			all = append(all, impl.Say{Link: k, V: wantSaid(n, l.A, l.P)})
		}
		if l.B == at {
			all = append(all, impl.Say{Link: k, Back: true, V: wantSaid(n, l.B, l.Q)})
		}
	}
	return all[:min(len(all), 40)]
}

// hearsAt lets the bridge b of a copy hear v by the port p.
func hearsAt(n impl.Net, b int, p int, v impl.Vec) {
	n.Bridges[b], _ = wantHear(n.Bridges[b], p, v)
}

func setEnds(n impl.Net, k int, up bool) {
	if wantUp(n, k) != up {
		l := n.Links[k]
		n.Bridges[l.A], _ = wantLink(n.Bridges[l.A], l.P, up)
		n.Bridges[l.B], _ = wantLink(n.Bridges[l.B], l.Q, up)
	}
}

// howMany are there of what a kind of event tells.
func howMany(n impl.Net, kind int) int {
	switch kind {
	case 1, 6:
		return len(n.Bridges)
	case 2, 3:
		return len(n.Said)
	case 4, 5:
		return len(n.Links)
	}
	return 0
}

func wantStep(n impl.Net, e impl.Event) (impl.Net, bool) {
	if !rightNet(n) || e.At < 0 || e.At >= howMany(n, e.Kind) {
		return n, false
	}
	n = copiedNet(n)
	switch e.Kind {
	case 1:
		n.Said = wantSays(n, e.At)
	case 2:
		s := n.Said[e.At]
		l := n.Links[s.Link]
		if s.Back && wantUp(n, s.Link) {
			hearsAt(n, l.A, l.P, s.V)
		} else if wantUp(n, s.Link) {
			hearsAt(n, l.B, l.Q, s.V)
		}
		n.Said = slices.Concat(n.Said[:e.At], n.Said[e.At+1:])
	case 3:
		n.Said = slices.Concat(n.Said[:e.At], n.Said[e.At+1:])
	case 4:
		setEnds(n, e.At, false)
	case 5:
		setEnds(n, e.At, true)
	case 6:
		n.Bridges[e.At], _ = wantTick(n.Bridges[e.At])
	}
	return n, true
}

func wantSteps(n impl.Net, l []impl.Event) impl.Net {
	for i, e := range l {
		if i < 60 {
			n, _ = wantStep(n, e)
		}
	}
	return n
}

func wantRound(n impl.Net) impl.Net {
	if !rightNet(n) {
		return n
	}
	after := copiedNet(n)
	for k, l := range n.Links {
		if wantUp(n, k) {
			hearsAt(after, l.A, l.P, wantSaid(n, l.B, l.Q))
			hearsAt(after, l.B, l.Q, wantSaid(n, l.A, l.P))
		}
	}
	after.Said = nil
	return after
}

func wantRounds(n impl.Net, k int) impl.Net {
	for i := 0; i < k && i < 30; i++ {
		n = wantRound(n)
	}
	return n
}

// givenTo hands n to a call, with spare room behind its lists and without, and wants
// nothing written there, neither by the call nor by who writes over the answer.
func givenTo(t *testing.T, n impl.Net, call func(n impl.Net) impl.Net) impl.Net {
	t.Helper()
	var answer impl.Net
	for _, handed := range []impl.Net{inRoom(n), copiedNet(n)} {
		kept := copiedNet(allOf(handed))
		got := call(handed)
		answer = copiedNet(got)
		ownLists(t, got)
		if !sameNet(allOf(handed), kept) {
			t.Fatalf("%+v was written: %+v", kept, allOf(handed))
		}
	}
	return answer
}

// happens wants Step to answer as its model does, and what is promised of it: what
// was right stays right, and what is refused is as it was.
func happens(t *testing.T, n impl.Net, e impl.Event) (impl.Net, bool) {
	t.Helper()
	ok := false
	after := givenTo(t, n, func(n impl.Net) impl.Net {
		var got impl.Net
		got, ok = impl.Step(n, e)
		return got
	})
	want, wantOk := wantStep(n, e)
	if ok != wantOk || !sameNet(after, want) {
		t.Fatalf("Step(%+v, %+v) = %+v, %v; want %+v, %v", n, e, after, ok, want, wantOk)
	}
	if !ok && !sameNet(after, n) {
		t.Errorf("Step(%+v, %+v) is refused, and answers %+v", n, e, after)
	}
	if impl.NetOk(n) != impl.NetOk(after) || ok && !rightNet(after) {
		t.Errorf("Step(%+v, %+v) = %+v: what was right is not, or what was wrong is", n, e, after)
	}
	return after, ok
}

// takes wants the event to happen.
func takes(t *testing.T, n impl.Net, kind int, at int) impl.Net {
	t.Helper()
	after, ok := happens(t, n, impl.Event{Kind: kind, At: at})
	if !ok {
		t.Errorf("Step(%+v, %d at %d) is refused", n, kind, at)
	}
	return after
}

// refuses wants the event not to happen.
func refuses(t *testing.T, n impl.Net, kind int, at int) {
	t.Helper()
	if after, ok := happens(t, n, impl.Event{Kind: kind, At: at}); ok || !sameNet(after, n) {
		t.Errorf("Step(%+v, %d at %d) = %+v, %v", n, kind, at, after, ok)
	}
}

// allHappen wants Steps to answer as its model does.
func allHappen(t *testing.T, n impl.Net, l []impl.Event) impl.Net {
	t.Helper()
	room := append(slices.Clone(l), impl.Event{Kind: impl.EvTick}, impl.Event{Kind: impl.EvCut})
	kept := slices.Clone(room)
	after := givenTo(t, n, func(n impl.Net) impl.Net { return impl.Steps(n, room[:len(l)]) })
	if want := wantSteps(n, l); !sameNet(after, want) {
		t.Fatalf("Steps(%+v, %+v) = %+v; want %+v", n, l, after, want)
	}
	if !slices.Equal(room, kept) || impl.NetOk(after) != impl.NetOk(n) {
		t.Errorf("Steps(%+v, %+v) = %+v: the events were written, or it is not right", n, kept, after)
	}
	return after
}

// goesRound wants Round to answer as its model does, and no Say to be left.
func goesRound(t *testing.T, n impl.Net) impl.Net {
	t.Helper()
	after := givenTo(t, n, impl.Round)
	if want := wantRound(n); !sameNet(after, want) {
		t.Fatalf("Round(%+v) = %+v; want %+v", n, after, want)
	}
	if impl.NetOk(after) != impl.NetOk(n) || impl.NetOk(n) && len(after.Said) > 0 {
		t.Errorf("Round(%+v) = %+v: it is not right, or a Say is left", n, after)
	}
	return after
}

func goesRounds(t *testing.T, n impl.Net, k int) impl.Net {
	t.Helper()
	after := givenTo(t, n, func(n impl.Net) impl.Net { return impl.Rounds(n, k) })
	if want := wantRounds(n, k); !sameNet(after, want) {
		t.Fatalf("Rounds(%+v, %d) = %+v; want %+v", n, k, after, want)
	}
	if impl.NetOk(after) != impl.NetOk(n) {
		t.Errorf("Rounds(%+v, %d) = %+v is not right", n, k, after)
	}
	return after
}

// rootVec is what a bridge says that knows of no other one.
func rootVec(id int, port int) impl.Vec { return impl.Vec{Root: id, Bridge: id, Port: port} }

// saidAre wants just these to be on their way.
func saidAre(t *testing.T, n impl.Net, want ...impl.Say) {
	t.Helper()
	if !slices.Equal(n.Said, want) {
		t.Errorf("on their way are %+v; want %+v", n.Said, want)
	}
}

// heardIs wants v to be heard at the port p of the bridge b.
func heardIs(t *testing.T, n impl.Net, b int, p int, v impl.Vec) {
	t.Helper()
	if port := n.Bridges[b].Ports[p]; !port.Up || !port.Has || port.Heard != v {
		t.Errorf("at the port %d of the bridge %d: %+v; want %+v", p, b, port, v)
	}
}

// notHeard wants nothing to be heard there.
func notHeard(t *testing.T, n impl.Net, b int, p int) {
	t.Helper()
	if port := n.Bridges[b].Ports[p]; port.Has || port.Heard != (impl.Vec{}) {
		t.Errorf("at the port %d of the bridge %d: %+v", p, b, port)
	}
}

// turns wants the bridges to have turned so often.
func turns(t *testing.T, n impl.Net, want ...int) {
	t.Helper()
	var got []int
	for _, b := range n.Bridges {
		got = append(got, b.Vers)
	}
	if !slices.Equal(got, want) {
		t.Errorf("the bridges have turned %v times; want %v", got, want)
	}
}

// pair is two bridges, 2 and 1, and a link from the port 1 of the first to the port 0 of the second.
func pair() impl.Net {
	return impl.NetNew([]int{2, 1}, 2, []impl.Link{{A: 0, P: 1, B: 1, Q: 0}})
}

// lineOf are bridges of these Ids in a row, with a link from the port 1 of each to the port 0 of the next one.
func lineOf(ids ...int) impl.Net {
	var l []impl.Link
	for i := range len(ids) - 1 {
		l = append(l, impl.Link{A: i, P: 1, B: i + 1, Q: 0})
	}
	return impl.NetNew(ids, 2, l)
}

// star is a bridge of the Id 7 with three links, whose order is not that of its ports, there and back.
func star() impl.Net {
	return impl.NetNew([]int{9, 7, 8, 6}, 3, []impl.Link{{A: 1, P: 2, B: 0, Q: 0}, {A: 2, P: 1, B: 1, Q: 0}, {A: 1, P: 1, B: 3, Q: 2}})
}

func allKinds() []int {
	return []int{impl.EvSay, impl.EvHear, impl.EvLose, impl.EvCut, impl.EvJoin, impl.EvTick}
}

func TestEventConstants(t *testing.T) {
	if !slices.Equal(allKinds(), []int{1, 2, 3, 4, 5, 6}) {
		t.Errorf("the kinds are %v", allKinds())
	}
}

func TestSayOnOneLink(t *testing.T) {
	n := takes(t, pair(), impl.EvSay, 0)
	saidAre(t, n, impl.Say{Link: 0, V: rootVec(2, 1)})
	n = takes(t, n, impl.EvSay, 1)
	saidAre(t, n, impl.Say{Link: 0, V: rootVec(2, 1)}, impl.Say{Link: 0, Back: true, V: rootVec(1, 0)})
	// What it has said already it says again.
	n = takes(t, n, impl.EvSay, 0)
	saidAre(t, n, impl.Say{Link: 0, V: rootVec(2, 1)}, impl.Say{Link: 0, Back: true, V: rootVec(1, 0)}, impl.Say{Link: 0, V: rootVec(2, 1)})
	turns(t, n, 2, 2)
}

// The order is that of the links, not that of the ports.
func TestSayOnSeveralLinks(t *testing.T) {
	n := takes(t, star(), impl.EvSay, 1)
	saidAre(t, n, impl.Say{Link: 0, V: rootVec(7, 2)}, impl.Say{Link: 1, Back: true, V: rootVec(7, 0)}, impl.Say{Link: 2, V: rootVec(7, 1)})
	n = takes(t, star(), impl.EvSay, 3)
	saidAre(t, n, impl.Say{Link: 2, Back: true, V: rootVec(6, 2)})
	// Several links between the same two.
	n = impl.NetNew([]int{5, 4}, 3, []impl.Link{{A: 0, P: 2, B: 1, Q: 0}, {A: 1, P: 1, B: 0, Q: 0}, {A: 0, P: 1, B: 1, Q: 2}})
	saidAre(t, takes(t, n, impl.EvSay, 0), impl.Say{Link: 0, V: rootVec(5, 2)}, impl.Say{Link: 1, Back: true, V: rootVec(5, 0)}, impl.Say{Link: 2, V: rootVec(5, 1)})
	saidAre(t, takes(t, n, impl.EvSay, 1), impl.Say{Link: 0, Back: true, V: rootVec(4, 0)}, impl.Say{Link: 1, V: rootVec(4, 1)}, impl.Say{Link: 2, Back: true, V: rootVec(4, 2)})
}

// What says on none has said all the same.
func TestSayOnNoLink(t *testing.T) {
	saidAre(t, takes(t, impl.NetNew([]int{4}, 3, nil), impl.EvSay, 0))
	n := impl.NetNew([]int{4, 5, 6}, 2, []impl.Link{{A: 0, P: 0, B: 2, Q: 1}})
	saidAre(t, takes(t, n, impl.EvSay, 1))
	n = takes(t, n, impl.EvCut, 0)
	for at := range 3 {
		saidAre(t, takes(t, n, impl.EvSay, at))
	}
}

func TestSayOnLinksThatAreUpAlone(t *testing.T) {
	for cut := range 3 {
		n := takes(t, star(), impl.EvCut, cut)
		n = takes(t, n, impl.EvSay, 1)
		if len(n.Said) != 2 || n.Said[0].Link == cut || n.Said[1].Link == cut || n.Said[0].Link >= n.Said[1].Link {
			t.Errorf("the link %d is down: %+v", cut, n.Said)
		}
	}
}

// What is said is what is known of the root, over the cost of the port by which it was heard.
func TestSayWhatWasHeard(t *testing.T) {
	n := lineOf(3, 1, 2)
	n.Bridges[2].Ports[0].Cost = 40
	n = takes(t, takes(t, n, impl.EvSay, 1), impl.EvHear, 1)
	heardIs(t, n, 2, 0, rootVec(1, 1))
	n = takes(t, takes(t, n, impl.EvLose, 0), impl.EvSay, 2)
	saidAre(t, n, impl.Say{Link: 1, Back: true, V: impl.Vec{Root: 1, Cost: 40, Hops: 1, Bridge: 2}})
	// What is on its way stays as it was said, whatever its bridge hears then.
	n = takes(t, n, impl.EvCut, 1)
	n = takes(t, n, impl.EvJoin, 1)
	saidAre(t, n, impl.Say{Link: 1, Back: true, V: impl.Vec{Root: 1, Cost: 40, Hops: 1, Bridge: 2}})
	n = takes(t, n, impl.EvSay, 2)
	saidAre(t, n, impl.Say{Link: 1, Back: true, V: impl.Vec{Root: 1, Cost: 40, Hops: 1, Bridge: 2}}, impl.Say{Link: 1, Back: true, V: rootVec(2, 0)})
}

func TestHearFromAToBAndBack(t *testing.T) {
	n := takes(t, takes(t, pair(), impl.EvSay, 0), impl.EvSay, 1)
	there := takes(t, n, impl.EvHear, 0)
	heardIs(t, there, 1, 0, rootVec(2, 1))
	notHeard(t, there, 0, 1)
	turns(t, there, 2, 3)
	saidAre(t, there, impl.Say{Link: 0, Back: true, V: rootVec(1, 0)})
	back := takes(t, n, impl.EvHear, 1)
	heardIs(t, back, 0, 1, rootVec(1, 0))
	notHeard(t, back, 1, 0)
	turns(t, back, 3, 2)
	saidAre(t, back, impl.Say{Link: 0, V: rootVec(2, 1)})
	both := takes(t, back, impl.EvHear, 0)
	heardIs(t, both, 0, 1, rootVec(1, 0))
	heardIs(t, both, 1, 0, rootVec(2, 1))
	saidAre(t, both)
	if impl.RoleOf(2, both.Bridges[0].Ports, 1) != impl.RoRoot || impl.RoleOf(1, both.Bridges[1].Ports, 0) != impl.RoTold {
		t.Errorf("the roles of %+v", both)
	}
}

func TestHearOnEachLinkOfSeveral(t *testing.T) {
	for k, ends := range [][4]int{{1, 2, 0, 0}, {2, 1, 1, 0}, {1, 1, 3, 2}} {
		n := star()
		n.Said = []impl.Say{{Link: k, V: someVec()}, {Link: k, Back: true, V: rootVec(3, 5)}}
		n = takes(t, takes(t, n, impl.EvHear, 1), impl.EvHear, 0)
		heardIs(t, n, ends[0], ends[1], rootVec(3, 5))
		heardIs(t, n, ends[2], ends[3], someVec())
		for b := range 4 {
			for p := range 3 {
				if (b != ends[0] || p != ends[1]) && (b != ends[2] || p != ends[3]) {
					notHeard(t, n, b, p)
				}
			}
		}
	}
}

// What is heard later comes in the place of what was heard, be it better or worse, in whatever order they were said.
func TestHearInAnotherOrder(t *testing.T) {
	n := pair()
	n.Said = []impl.Say{{V: rootVec(5, 0)}, {V: rootVec(3, 0)}, {V: rootVec(4, 0)}, {V: rootVec(3, 0)}}
	n = takes(t, n, impl.EvHear, 2)
	heardIs(t, n, 1, 0, rootVec(4, 0))
	saidAre(t, n, impl.Say{V: rootVec(5, 0)}, impl.Say{V: rootVec(3, 0)}, impl.Say{V: rootVec(3, 0)})
	n = takes(t, n, impl.EvHear, 2)
	heardIs(t, n, 1, 0, rootVec(3, 0))
	n = takes(t, n, impl.EvHear, 1)
	heardIs(t, n, 1, 0, rootVec(3, 0))
	turns(t, n, 2, 5)
	n = takes(t, n, impl.EvHear, 0)
	heardIs(t, n, 1, 0, rootVec(5, 0))
	saidAre(t, n)
	refuses(t, n, impl.EvHear, 0)
}

func TestLose(t *testing.T) {
	for _, back := range []bool{false, true} {
		n := pair()
		n.Said = []impl.Say{{Back: back, V: rootVec(5, 0)}, {Back: !back, V: rootVec(6, 0)}, {Back: back, V: rootVec(7, 0)}}
		for at := range 3 {
			after := takes(t, n, impl.EvLose, at)
			saidAre(t, after, slices.Concat(n.Said[:at], n.Said[at+1:])...)
			notHeard(t, after, 0, 1)
			notHeard(t, after, 1, 0)
			turns(t, after, 2, 2)
		}
	}
}

func TestCut(t *testing.T) {
	n := impl.Rounds(ring3(), 3)
	for k, l := range n.Links {
		after := takes(t, n, impl.EvCut, k)
		for other := range n.Links {
			if impl.LinkUp(after, other) != (other != k) {
				t.Errorf("the link %d is cut: the link %d is up: %v", k, other, other == k)
			}
		}
		for _, end := range [][2]int{{l.A, l.P}, {l.B, l.Q}} {
			if p := after.Bridges[end[0]].Ports[end[1]]; p != down() {
				t.Errorf("an end of the link %d that is cut: %+v", k, p)
			}
			if after.Bridges[end[0]].Vers != n.Bridges[end[0]].Vers+1 {
				t.Errorf("Vers of an end of the link %d: %d", k, after.Bridges[end[0]].Vers)
			}
		}
		third := 3 - l.A - l.B
		if !impl.SameBridge(after.Bridges[third], n.Bridges[third]) {
			t.Errorf("the bridge %d has no end of the link %d: %+v", third, k, after.Bridges[third])
		}
		// Each other one stays up at both ends, or at none.
		after = takes(t, after, impl.EvCut, (k+1)%3)
		after = takes(t, after, impl.EvCut, (k+2)%3)
		for other := range n.Links {
			if impl.LinkUp(after, other) {
				t.Errorf("the link %d is up", other)
			}
		}
	}
}

func TestJoin(t *testing.T) {
	n := ring3()
	for k := range 3 {
		n = takes(t, n, impl.EvCut, k)
	}
	turns(t, n, 5, 5, 5)
	for k := range 3 {
		n = takes(t, n, impl.EvJoin, k)
		for other := range 3 {
			if impl.LinkUp(n, other) != (other <= k) {
				t.Errorf("behind the link %d was joined: the link %d is up: %v", k, other, other > k)
			}
		}
	}
	turns(t, n, 7, 7, 7)
}

// A link that was never up is joined, too, and its ports keep their costs.
func TestJoinWhatWasNeverUp(t *testing.T) {
	n := impl.Net{Bridges: []impl.Bridge{impl.BridgeNew(5, 1), impl.BridgeNew(6, 6)}, Links: []impl.Link{{A: 1, P: 5, B: 0, Q: 0}}}
	n.Bridges[1].Ports[5].Cost = 1000
	n = takes(t, n, impl.EvJoin, 0)
	if n.Bridges[0].Ports[0] != silent() || n.Bridges[1].Ports[5] != (impl.Pt{Up: true, Cost: 1000}) {
		t.Errorf("the ends are %+v, %+v", n.Bridges[0].Ports, n.Bridges[1].Ports)
	}
	n = takes(t, n, impl.EvCut, 0)
	if n.Bridges[0].Ports[0] != down() || n.Bridges[1].Ports[5] != (impl.Pt{Cost: 1000}) {
		t.Errorf("the ends are %+v, %+v", n.Bridges[0].Ports, n.Bridges[1].Ports)
	}
	turns(t, n, 2, 2)
}

// Behind a cut nothing is left of what was heard there.
func TestCutAndJoinAgain(t *testing.T) {
	n := goesRounds(t, pair(), 2)
	heardIs(t, n, 0, 1, rootVec(1, 0))
	heardIs(t, n, 1, 0, impl.Vec{Root: 1, Cost: 1, Hops: 1, Bridge: 2, Port: 1})
	n = takes(t, n, impl.EvCut, 0)
	n = takes(t, n, impl.EvJoin, 0)
	notHeard(t, n, 0, 1)
	notHeard(t, n, 1, 0)
	turns(t, n, 6, 6)
	saidAre(t, takes(t, n, impl.EvSay, 0), impl.Say{V: rootVec(2, 1)})
}

// Nothing happens to a link that is so: what was heard stays, and nothing turns.
func TestCutWhereItIsDownAndJoinWhereItIsUp(t *testing.T) {
	n := goesRounds(t, pair(), 2)
	n.Said = says(3)
	if joined := takes(t, n, impl.EvJoin, 0); !sameNet(joined, n) {
		t.Errorf("the link was up: %+v; want %+v", joined, n)
	}
	n = takes(t, n, impl.EvCut, 0)
	if cut := takes(t, n, impl.EvCut, 0); !sameNet(cut, n) {
		t.Errorf("the link was down: %+v; want %+v", cut, n)
	}
}

// Who was learned at a port goes with its link; who is static stays.
func TestWhoStandsWhereALinkIsCut(t *testing.T) {
	n := impl.Net{Bridges: []impl.Bridge{yardOf(4, silent(), silent()), yardOf(5, silent(), silent())}, Links: []impl.Link{{A: 0, P: 0, B: 1, Q: 1}}}
	n = takes(t, n, impl.EvCut, 0)
	stands(t, n.Bridges[0], 2, 1)
	stands(t, n.Bridges[1], 2, 0)
}

func TestTickOfABridge(t *testing.T) {
	n := ring3()
	n.Bridges[1].F = []impl.Fent{{Tag: 1, Mac: 5, Port: 2, Age: 3}, {Tag: 1, Mac: 6, Port: 2, Age: 4}, {Tag: 1, Mac: 7, Port: 2, Static: true}}
	n.Said = says(2)
	n = takes(t, n, impl.EvTick, 1)
	if !slices.Equal(n.Bridges[1].F, []impl.Fent{{Tag: 1, Mac: 5, Port: 2, Age: 4}, {Tag: 1, Mac: 7, Port: 2, Static: true}}) || n.Bridges[1].Ticks != 1 {
		t.Errorf("a tick: %+v", n.Bridges[1])
	}
	turns(t, n, 3, 4, 3)
	saidAre(t, n, says(2)...)
	for at := range 3 {
		if after := takes(t, n, impl.EvTick, at); after.Bridges[at].Ticks != n.Bridges[at].Ticks+1 {
			t.Errorf("a tick of the bridge %d: %+v", at, after.Bridges)
		}
	}
}

// At their most the counts stay, and nothing else hinders what happens.
func TestEventsWhereCountsAreFull(t *testing.T) {
	n := ring3()
	for i := range n.Bridges {
		n.Bridges[i].Vers, n.Bridges[i].Ticks = 1000000, 1000000
	}
	n = takes(t, n, impl.EvTick, 0)
	n = takes(t, takes(t, n, impl.EvSay, 1), impl.EvHear, 0)
	n = takes(t, n, impl.EvCut, 2)
	n = goesRounds(t, n, 2)
	heardIs(t, n, 0, 0, rootVec(1, 0))
	turns(t, n, 1000000, 1000000, 1000000)
}

func TestSeveralEvents(t *testing.T) {
	l := []impl.Event{{Kind: impl.EvSay, At: 1}, {Kind: impl.EvHear, At: 1}, {Kind: impl.EvSay, At: 2}, {Kind: impl.EvLose, At: 0}, {Kind: impl.EvHear, At: 1}, {Kind: impl.EvTick, At: 0}, {Kind: impl.EvCut, At: 0}}
	n := allHappen(t, ring3(), l)
	saidAre(t, n, impl.Say{Link: 1, Back: true, V: impl.Vec{Root: 1, Cost: 1, Hops: 1, Bridge: 2, Port: 1}})
	heardIs(t, n, 2, 1, rootVec(1, 1))
	heardIs(t, n, 0, 1, impl.Vec{Root: 1, Cost: 1, Hops: 1, Bridge: 2})
	notHeard(t, n, 0, 0)
	turns(t, n, 6, 4, 4)
	if impl.LinkUp(n, 0) || n.Bridges[0].Ticks != 1 {
		t.Errorf("behind all of them: %+v", n)
	}
	one := ring3()
	for _, e := range l {
		one = takes(t, one, e.Kind, e.At)
	}
	if !sameNet(one, n) {
		t.Errorf("one by one: %+v; at once: %+v", one, n)
	}
}

// What is refused is passed over, and those behind it happen.
func TestSeveralEventsOfWhichSomeAreRefused(t *testing.T) {
	n := allHappen(t, pair(), []impl.Event{{}, {Kind: impl.EvHear}, {Kind: impl.EvSay, At: 1}, {Kind: impl.EvSay, At: 2}, {Kind: 7}, {Kind: impl.EvCut, At: -1}, {Kind: impl.EvHear}, {Kind: impl.EvLose}, {Kind: impl.EvTick, At: 1}})
	heardIs(t, n, 0, 1, rootVec(1, 0))
	turns(t, n, 3, 3)
}

func TestHowManyEvents(t *testing.T) {
	for _, count := range []int{0, 1, 59, 60, 61, 62, 120, 1000} {
		n := allHappen(t, pair(), slices.Repeat([]impl.Event{{Kind: impl.EvTick, At: 1}}, count))
		if n.Bridges[1].Ticks != min(count, 60) || n.Bridges[0].Ticks != 0 {
			t.Errorf("%d ticks: %d, %d", count, n.Bridges[0].Ticks, n.Bridges[1].Ticks)
		}
	}
	if n := pair(); !sameNet(allHappen(t, n, nil), n) || !sameNet(allHappen(t, n, []impl.Event{}), n) {
		t.Error("without an event it is not as it was")
	}
	// What is refused counts among the first 60.
	for refused, want := range map[int]int{58: 2, 59: 1, 60: 0, 61: 0} {
		l := append(slices.Repeat([]impl.Event{{Kind: 9}}, refused), impl.Event{Kind: impl.EvTick}, impl.Event{Kind: impl.EvTick})
		if n := allHappen(t, pair(), l); n.Bridges[0].Ticks != want {
			t.Errorf("behind %d that are refused: %d ticks", refused, n.Bridges[0].Ticks)
		}
	}
}

// The bridge 1 of a star says on three links: just as many as have room are on their way, the first ones.
func TestRoomForSays(t *testing.T) {
	three := []impl.Say{{Link: 0, V: rootVec(7, 2)}, {Link: 1, Back: true, V: rootVec(7, 0)}, {Link: 2, V: rootVec(7, 1)}}
	for _, count := range []int{0, 36, 37, 38, 39, 40} {
		n := star()
		n.Said = says(count)
		after := takes(t, n, impl.EvSay, 1)
		saidAre(t, after, append(says(count), three[:min(3, 40-count)]...)...)
		turns(t, after, 3, 3, 3, 3)
	}
	// Where there is room again the next one comes.
	n := star()
	n.Said = says(40)
	n = takes(t, takes(t, n, impl.EvLose, 39), impl.EvSay, 3)
	saidAre(t, n, append(says(39), impl.Say{Link: 2, Back: true, V: rootVec(6, 2)})...)
	// It was the bridge 0 that heard of the root 1.
	n = takes(t, takes(t, n, impl.EvHear, 0), impl.EvSay, 0)
	saidAre(t, n, append(says(39)[1:], impl.Say{Link: 2, Back: true, V: rootVec(6, 2)}, impl.Say{Link: 0, Back: true, V: impl.Vec{Root: 1, Cost: 1, Hops: 1, Bridge: 9}})...)
	// A link that is down takes no room.
	n = star()
	n.Said = says(38)
	n = takes(t, takes(t, n, impl.EvCut, 0), impl.EvSay, 1)
	saidAre(t, n, append(says(38), three[1:]...)...)
	// One more than there may be is no net.
	n = star()
	n.Said = says(41)
	refuses(t, n, impl.EvSay, 1)
	refuses(t, n, impl.EvLose, 40)
	refuses(t, n, impl.EvHear, 40)
}

// Of 40 that are on their way each may be heard, or be lost.
func TestEachOfManySays(t *testing.T) {
	n := pair()
	n.Said = says(40)
	for at := range 40 {
		after := takes(t, n, impl.EvHear, at)
		if at%2 == 1 {
			heardIs(t, after, 0, 1, n.Said[at].V)
			notHeard(t, after, 1, 0)
		} else {
			heardIs(t, after, 1, 0, n.Said[at].V)
			notHeard(t, after, 0, 1)
		}
		lost := takes(t, n, impl.EvLose, at)
		saidAre(t, lost, after.Said...)
		saidAre(t, lost, slices.Concat(n.Said[:at], n.Said[at+1:])...)
	}
	refuses(t, n, impl.EvHear, 40)
	refuses(t, n, impl.EvLose, 40)
}

// A Say whose link was cut while it was on its way goes, and nobody hears it; where the link was joined again it is heard.
func TestSayWhoseLinkWasCut(t *testing.T) {
	for at := range 2 {
		n := takes(t, takes(t, pair(), impl.EvSay, 0), impl.EvSay, 1)
		n = takes(t, n, impl.EvCut, 0)
		if len(n.Said) != 2 {
			t.Errorf("behind the cut: %+v", n.Said)
		}
		gone := takes(t, n, impl.EvHear, at)
		saidAre(t, gone, n.Said[1-at])
		turns(t, gone, 3, 3)
		if lost := takes(t, n, impl.EvLose, at); !sameNet(lost, gone) {
			t.Errorf("lost: %+v; heard where the link is down: %+v", lost, gone)
		}
		n = takes(t, takes(t, n, impl.EvJoin, 0), impl.EvHear, at)
		if at == 0 {
			heardIs(t, n, 1, 0, rootVec(2, 1))
			notHeard(t, n, 0, 1)
		} else {
			heardIs(t, n, 0, 1, rootVec(1, 0))
			notHeard(t, n, 1, 0)
		}
	}
	// Another link that is cut does not hinder.
	n := takes(t, takes(t, star(), impl.EvSay, 1), impl.EvCut, 0)
	n = takes(t, n, impl.EvHear, 1)
	heardIs(t, n, 2, 1, rootVec(7, 0))
	n = takes(t, n, impl.EvHear, 0)
	notHeard(t, n, 0, 0)
}

// The first of each, the last one, and one beyond either.
func TestPlacesOfEvents(t *testing.T) {
	n := star()
	n.Said = says(5)
	for _, kind := range allKinds() {
		count := howMany(n, kind)
		takes(t, n, kind, 0)
		takes(t, n, kind, count-1)
		refuses(t, n, kind, -1)
		refuses(t, n, kind, count)
		for _, at := range strayPlaces() {
			refuses(t, n, kind, at)
		}
	}
}

// Nothing is there of what there is none.
func TestEventsWhereThereAreNone(t *testing.T) {
	n := impl.NetNew([]int{7}, 1, nil)
	for _, kind := range []int{impl.EvHear, impl.EvLose, impl.EvCut, impl.EvJoin} {
		for at := -1; at <= 1; at++ {
			refuses(t, n, kind, at)
		}
	}
	takes(t, n, impl.EvSay, 0)
	takes(t, n, impl.EvTick, 0)
	refuses(t, n, impl.EvSay, 1)
	refuses(t, n, impl.EvTick, 1)
}

func TestKindsThatAreNone(t *testing.T) {
	n := star()
	n.Said = says(5)
	for _, kind := range []int{0, -1, -6, 7, 8, 9, 64, 1<<32 + 1, math.MaxInt, math.MinInt} {
		for at := -1; at <= 5; at++ {
			refuses(t, n, kind, at)
		}
	}
}

// wrongNets are none of them NetOk, each for another reason.
func wrongNets() []impl.Net {
	all := []impl.Net{{}}
	for _, spoil := range []func(n *impl.Net){
		func(n *impl.Net) { n.Bridges = nil },
		func(n *impl.Net) { n.Bridges[0].Id = 0 },
		func(n *impl.Net) { n.Bridges[2].Id = n.Bridges[1].Id },
		func(n *impl.Net) { n.Bridges[1].Name = "eleven-byte" },
		func(n *impl.Net) { n.Bridges[1].Vers = 1000001 },
		func(n *impl.Net) { n.Bridges[2].Ports = nil },
		func(n *impl.Net) { n.Bridges[2].Ports[2].Cost = 0 },
		func(n *impl.Net) { n.Bridges[0].Ports[2] = heardAt(someVec()) },
		func(n *impl.Net) { n.Bridges[0].F = []impl.Fent{{Tag: 1, Mac: 1, Age: 5}} },
		func(n *impl.Net) { n.Bridges[0].V.Pvid[0] = 9 },
		func(n *impl.Net) { n.Bridges[1] = impl.LinkSet(n.Bridges[1], 0, false) },
		func(n *impl.Net) { n.Links[1].B = 3 },
		func(n *impl.Net) { n.Links[1].Q = -1 },
		func(n *impl.Net) { n.Links[2] = impl.Link{A: 2, P: 0, B: 2, Q: 2} },
		func(n *impl.Net) { n.Links[2] = n.Links[0] },
		func(n *impl.Net) { n.Links = slices.Repeat(n.Links, 4) },
		func(n *impl.Net) { n.Said[1].Link = 3 },
		func(n *impl.Net) { n.Said[0].Link = -1 },
		func(n *impl.Net) { n.Said[2].V.Root = 0 },
		func(n *impl.Net) { n.Said = says(41) },
		func(n *impl.Net) {
			for id := 10; id < 14; id++ {
				n.Bridges = append(n.Bridges, impl.BridgeNew(id, 3))
			}
		},
	} {
		n := ring3()
		n.Said = says(3)
		spoil(&n)
		all = append(all, n)
	}
	return all
}

// Of what is no net Step answers it and false, the others it, with all that is on its way.
func TestEventsOfWhatIsNoNet(t *testing.T) {
	for i, n := range wrongNets() {
		if impl.NetOk(n) {
			t.Errorf("the net %d is right: %+v", i, n)
		}
		var l []impl.Event
		for kind := -1; kind <= 8; kind++ {
			for _, at := range []int{-1, 0, 1, 2, 3, 40} {
				refuses(t, n, kind, at)
				l = append(l, impl.Event{Kind: kind, At: at})
			}
		}
		for _, after := range []impl.Net{goesRound(t, n), goesRounds(t, n, 1), goesRounds(t, n, 30), goesRounds(t, n, 0), allHappen(t, n, l), allHappen(t, n, nil)} {
			if !sameNet(after, n) {
				t.Errorf("%+v; it was %+v", after, n)
			}
		}
	}
}

func TestRoundOfTwo(t *testing.T) {
	n := goesRound(t, pair())
	heardIs(t, n, 0, 1, rootVec(1, 0))
	heardIs(t, n, 1, 0, rootVec(2, 1))
	turns(t, n, 3, 3)
	n = goesRound(t, n)
	heardIs(t, n, 0, 1, rootVec(1, 0))
	heardIs(t, n, 1, 0, impl.Vec{Root: 1, Cost: 1, Hops: 1, Bridge: 2, Port: 1})
	turns(t, n, 4, 4)
}

// In a round nobody says yet what it hears in it, however the links stand.
func TestRoundOfALine(t *testing.T) {
	n := lineOf(1, 2, 3, 4)
	for _, l := range [][]impl.Link{{n.Links[0], n.Links[1], n.Links[2]}, {n.Links[2], n.Links[1], n.Links[0]}} {
		n := impl.NetNew([]int{1, 2, 3, 4}, 2, l)
		n = goesRound(t, n)
		for b := 1; b < 4; b++ {
			heardIs(t, n, b, 0, rootVec(b, 1))
			heardIs(t, n, b-1, 1, rootVec(b+1, 0))
		}
		n = goesRound(t, n)
		heardIs(t, n, 1, 0, rootVec(1, 1))
		heardIs(t, n, 2, 0, impl.Vec{Root: 1, Cost: 1, Hops: 1, Bridge: 2, Port: 1})
		heardIs(t, n, 3, 0, impl.Vec{Root: 2, Cost: 1, Hops: 1, Bridge: 3, Port: 1})
		n = goesRound(t, n)
		heardIs(t, n, 3, 0, impl.Vec{Root: 1, Cost: 2, Hops: 2, Bridge: 3, Port: 1})
		turns(t, n, 5, 8, 8, 5)
	}
}

func TestRoundOfARing(t *testing.T) {
	n := ring3()
	n.Said = says(7)
	n = goesRound(t, n)
	saidAre(t, n)
	heardIs(t, n, 0, 0, rootVec(1, 0))
	heardIs(t, n, 0, 1, rootVec(2, 0))
	heardIs(t, n, 1, 0, rootVec(3, 0))
	heardIs(t, n, 1, 1, rootVec(2, 1))
	heardIs(t, n, 2, 0, rootVec(3, 1))
	heardIs(t, n, 2, 1, rootVec(1, 1))
	turns(t, n, 5, 5, 5)
	n = goesRound(t, n)
	heardIs(t, n, 0, 1, impl.Vec{Root: 1, Cost: 1, Hops: 1, Bridge: 2})
	heardIs(t, n, 2, 0, impl.Vec{Root: 1, Cost: 1, Hops: 1, Bridge: 3, Port: 1})
	heardIs(t, n, 1, 0, impl.Vec{Root: 1, Cost: 1, Hops: 1, Bridge: 3})
	heardIs(t, n, 1, 1, impl.Vec{Root: 1, Cost: 1, Hops: 1, Bridge: 2, Port: 1})
	if impl.RoleOf(3, n.Bridges[0].Ports, 1) != impl.RoIdle || impl.RoleOf(2, n.Bridges[2].Ports, 0) != impl.RoTold {
		t.Errorf("the roles of %+v", n)
	}
}

// What is on its way is not heard in a round, and is gone, even where no link is up or there is none.
func TestRoundLeavesNoSay(t *testing.T) {
	n := pair()
	n.Said = []impl.Say{{V: someVec()}, {Back: true, V: someVec()}}
	after := goesRound(t, n)
	heardIs(t, after, 0, 1, rootVec(1, 0))
	heardIs(t, after, 1, 0, rootVec(2, 1))
	n = takes(t, n, impl.EvCut, 0)
	n.Said = says(40)
	after = goesRound(t, n)
	saidAre(t, after)
	turns(t, after, 3, 3)
	alone := impl.NetNew([]int{7}, 3, nil)
	if !sameNet(goesRound(t, alone), alone) {
		t.Error("a bridge alone is not as it was")
	}
}

func TestRoundByLinksThatAreUpAlone(t *testing.T) {
	for cut := range 3 {
		n := goesRound(t, takes(t, ring3(), impl.EvCut, cut))
		for k, l := range n.Links {
			if k == cut {
				notHeard(t, n, l.A, l.P)
				notHeard(t, n, l.B, l.Q)
			} else if !n.Bridges[l.A].Ports[l.P].Has || !n.Bridges[l.B].Ports[l.Q].Has {
				t.Errorf("the link %d is up, and was not heard by: %+v", k, n)
			}
		}
	}
}

// Who stands at a port that does not send in between goes: so the order of the links is to be seen.
func TestRoundGoesLinkByLink(t *testing.T) {
	first, second, far := impl.Link{A: 0, P: 0, B: 1, Q: 0}, impl.Link{A: 2, P: 0, B: 0, Q: 1}, impl.Link{A: 2, P: 1, B: 3, Q: 0}
	for _, c := range []struct {
		l      []impl.Link
		stands bool
	}{
		{[]impl.Link{first, second, far}, true},
		{[]impl.Link{first, far, second}, true},
		{[]impl.Link{second, first, far}, false},
		{[]impl.Link{far, second, first}, false},
	} {
		n := impl.NetNew([]int{9, 5, 4, 1}, 2, c.l)
		n.Bridges[0].Ports[0] = heardAt(rootVec(1, 0))
		n.Bridges[2].Ports[1] = heardAt(rootVec(1, 0))
		n.Bridges[0].F = []impl.Fent{{Tag: 1, Mac: 7, Port: 1}}
		n = goesRound(t, n)
		heardIs(t, n, 0, 0, rootVec(5, 0))
		heardIs(t, n, 0, 1, impl.Vec{Root: 1, Cost: 1, Hops: 1, Bridge: 4})
		if (impl.LookUp(n.Bridges[0].F, 1, 7) == 1) != c.stands {
			t.Errorf("by the links %v: %+v", c.l, n.Bridges[0].F)
		}
	}
}

func TestHowManyRounds(t *testing.T) {
	n := ring3()
	n.Said = says(4)
	for _, k := range []int{0, -1, -2, -30, -31, math.MinInt} {
		if after := goesRounds(t, n, k); !sameNet(after, n) {
			t.Errorf("Rounds of %d = %+v; want it as it was", k, after)
		}
	}
	if !sameNet(goesRounds(t, n, 1), goesRound(t, n)) {
		t.Error("Rounds of 1 is not Round")
	}
	one := n
	for k := 1; k <= 33; k++ {
		after := goesRounds(t, n, k)
		if k <= 30 {
			one = goesRound(t, one)
		}
		turns(t, after, 3+2*min(k, 30), 3+2*min(k, 30), 3+2*min(k, 30))
		if !sameNet(after, one) {
			t.Errorf("Rounds of %d = %+v; want %+v", k, after, one)
		}
	}
	for _, k := range []int{60, 1000, 1 << 32, math.MaxInt} {
		if !sameNet(goesRounds(t, n, k), one) {
			t.Errorf("Rounds of %d is not Rounds of 30", k)
		}
	}
}

// Behind several rounds all of a line know the root at its end, and how far it is.
func TestSeveralRounds(t *testing.T) {
	n := goesRounds(t, lineOf(6, 5, 4, 3, 2, 1), 5)
	for b := range 5 {
		away := 5 - b
		if v, from := impl.BestVec(n.Bridges[b].Id, n.Bridges[b].Ports); v.Root != 1 || v.Cost != away || v.Hops != away || from != 1 {
			t.Errorf("the bridge %d knows %+v by the port %d", b, v, from)
		}
	}
}

// Rounds are the same as that all say, and all that was said is heard link by link.
func TestRoundAsEvents(t *testing.T) {
	n := impl.NetNew([]int{4, 2, 6, 1, 5, 3}, 3, nineLinks())
	for range 4 {
		var l []impl.Event
		for at := range 6 {
			l = append(l, impl.Event{Kind: impl.EvSay, At: at})
		}
		said := allHappen(t, n, l)
		if len(said.Said) != 18 {
			t.Fatalf("18 ends say: %+v", said.Said)
		}
		slices.SortStableFunc(said.Said, func(a impl.Say, b impl.Say) int { return a.Link - b.Link })
		heard := allHappen(t, said, slices.Repeat([]impl.Event{{Kind: impl.EvHear}}, 18))
		n = goesRound(t, n)
		if !sameNet(heard, n) {
			t.Errorf("as events: %+v; as a round: %+v", heard, n)
		}
	}
}

// Bridges that share lists when they are handed in share none in the answer.
func TestNetsWhoseBridgesShareLists(t *testing.T) {
	fresh := func() impl.Net {
		n := impl.NetNew([]int{1, 2}, 3, []impl.Link{{A: 0, P: 0, B: 1, Q: 0}})
		n.Bridges[0].F = []impl.Fent{{Tag: 1, Mac: 1, Port: 1}, {Tag: 1, Mac: 2, Port: 2}}
		n.Bridges[1].Ports, n.Bridges[1].F, n.Bridges[1].V = n.Bridges[0].Ports, n.Bridges[0].F, n.Bridges[0].V
		n.Said = says(2)
		return n
	}
	for kind := range 8 {
		n := fresh()
		kept := copiedNet(n)
		after, _ := impl.Step(n, impl.Event{Kind: kind, At: 1})
		again := impl.Steps(n, []impl.Event{{Kind: kind}})
		want, _ := wantStep(n, impl.Event{Kind: kind, At: 1})
		if !sameNet(after, want) || !sameNet(again, wantSteps(n, []impl.Event{{Kind: kind}})) {
			t.Errorf("the kind %d: %+v, %+v", kind, after, again)
		}
		ownLists(t, after)
		ownLists(t, again)
		if !sameNet(n, kept) {
			t.Fatalf("%+v was written: %+v", kept, n)
		}
	}
	n := fresh()
	kept := copiedNet(n)
	for _, after := range []impl.Net{impl.Round(n), impl.Rounds(n, 0), impl.Rounds(n, 3), impl.Steps(n, nil)} {
		ownLists(t, after)
	}
	if !sameNet(n, kept) {
		t.Fatalf("%+v was written: %+v", kept, n)
	}
}

// What one call answered is not changed by the next one that it is handed to.
func TestAnswersOfStepsStay(t *testing.T) {
	n := ring3()
	n.Said = says(3)
	for _, kind := range allKinds() {
		first, _ := impl.Step(n, impl.Event{Kind: kind, At: 1})
		kept := copiedNet(first)
		for _, other := range allKinds() {
			impl.Step(first, impl.Event{Kind: other})
		}
		impl.Steps(first, []impl.Event{{Kind: impl.EvSay}, {Kind: impl.EvLose}, {Kind: impl.EvCut}})
		impl.Rounds(first, 2)
		if !sameNet(first, kept) {
			t.Errorf("behind other calls: %+v; it was %+v", first, kept)
		}
	}
}

// All short ways of a pair of bridges: whatever happens it stays right, and is as the model has it.
func TestAllShortWaysOfAPair(t *testing.T) {
	var l []impl.Event
	for kind := 1; kind <= 6; kind++ {
		l = append(l, impl.Event{Kind: kind}, impl.Event{Kind: kind, At: 1})
	}
	count := 12 * 12 * 12 * 12
	for i := range count {
		way := []impl.Event{l[i%12], l[i/12%12], l[i/144%12], l[i/1728]}
		got, want := impl.Steps(pair(), way), wantSteps(pair(), way)
		if !sameNet(got, want) || !impl.NetOk(got) {
			t.Fatalf("Steps(%+v) = %+v; want %+v", way, got, want)
		}
	}
}

// Many nets by a fixed rule, to which much happens.
func TestWhateverHappensToNets(t *testing.T) {
	draw := uint64(14)
	next := func(count int) int {
		draw = draw*6364136223846793005 + 1442695040888963407
		return int(draw>>33) % count
	}
	taken, refused, full := 0, 0, 0
	for range 120 {
		n := drawnNet(next)
		for range 60 {
			kind := next(8)
			if next(2) == 0 {
				kind = impl.EvSay + next(2)
			}
			after, ok := happens(t, n, impl.Event{Kind: kind, At: next(howMany(n, kind)+2) - 1})
			if ok {
				taken++
			} else {
				refused++
			}
			if n = after; len(n.Said) == 40 {
				full++
			}
			if next(12) == 0 {
				n.Bridges[0].F = impl.Learn(n.Bridges[0].F, 1, 1+next(20), next(len(n.Bridges[0].Ports)))
			}
			if next(40) == 0 {
				goesRounds(t, n, next(5)-1)
				n = goesRound(t, n)
			}
		}
	}
	if taken < 2000 || refused < 500 || full < 20 {
		t.Errorf("%d were taken, %d refused, %d times there was no more room", taken, refused, full)
	}
}

// drawnNet is a right net of some bridges, whose ports have costs of their own, with as many links as are right.
func drawnNet(next func(count int) int) impl.Net {
	ids := []int{1 + next(30), 31 + next(30), 61 + next(30), 91, 95, 99}
	for i := range ids {
		j := next(i + 1)
		ids[i], ids[j] = ids[j], ids[i]
	}
	ids = ids[:1+next(6)]
	ports := 1 + next(6)
	n := impl.NetNew(ids, ports, nil)
	for range 20 {
		l := append(slices.Clone(n.Links), impl.Link{A: next(len(ids)), P: next(ports), B: next(len(ids)), Q: next(ports)})
		if more := impl.NetNew(ids, ports, l); impl.NetOk(more) {
			n = more
		}
	}
	for b := range n.Bridges {
		for p := range n.Bridges[b].Ports {
			n.Bridges[b].Ports[p].Cost = 1 + next(4)
			n.Bridges[b].F = impl.Learn(n.Bridges[b].F, 1, 1+next(20), p)
		}
	}
	for range next(3) * 19 {
		if len(n.Links) > 0 {
			n.Said = append(n.Said, impl.Say{Link: next(len(n.Links)), Back: next(2) == 0, V: impl.Vec{Root: 1 + next(99), Cost: next(5), Hops: next(11), Bridge: 1 + next(99), Port: next(8)}})
		}
	}
	return n
}

// Nothing is kept from one call to another.
func TestStepsHangOnWhatIsHandedInAlone(t *testing.T) {
	n := ring3()
	first := allHappen(t, n, []impl.Event{{Kind: impl.EvSay, At: 1}, {Kind: impl.EvHear}})
	for range 3 {
		refuses(t, n, impl.EvHear, 0)
		takes(t, n, impl.EvCut, 0)
		goesRounds(t, n, 30)
		if again := allHappen(t, n, []impl.Event{{Kind: impl.EvSay, At: 1}, {Kind: impl.EvHear}}); !sameNet(again, first) {
			t.Errorf("%+v; it was %+v", again, first)
		}
	}
}

package tests

import (
	"bytes"
	"math"
	"slices"
	"strconv"
	"strings"
	"testing"

	"loop.example/g00326/impl"
)

// rightFrame, wantSent and the model behind them say the document's words once more, plainly, port by port.
func rightFrame(f impl.Frame) bool {
	return f.Dst >= 0 && f.Dst <= 9999 && f.Src >= 1 && f.Src <= 9999 && f.Tag >= 0 && f.Tag <= 99 && len(f.Data) <= 20
}

func wantSending(b impl.Bridge, port int) bool {
	role := wantRole(b.Id, b.Ports, port)
	return role == 1 || role == 2
}

// wantSent is what goes out of a bridge that has learned already, of a frame of the network id.
func wantSent(b impl.Bridge, from int, id int, f impl.Frame) []impl.Out {
	known := -1
	if f.Dst != 0 {
		known = wantLookUp(b.F, id, f.Dst)
	}
	var outs []impl.Out
	for port := range b.Ports {
		if port == from || known >= 0 && known != port || !wantSending(b, port) || !hasBit(wantEgress(b.V, id), port) {
			continue
		}
		out := impl.Frame{Dst: f.Dst, Src: f.Src, Tag: wantShown(b.V, id, port), Data: slices.Clone(f.Data)}
		outs = append(outs, impl.Out{Port: port, F: out})
	}
	return outs
}

func wantForward(b impl.Bridge, port int, f impl.Frame) (impl.Bridge, []impl.Out) {
	if !rightBridge(b) || port < 0 || port >= len(b.Ports) || !rightFrame(f) {
		return b, nil
	}
	b = copiedBridge(b)
	id, in := wantClass(b.V, port, f.Tag)
	if !in || !wantSending(b, port) {
		b.Drops = wantOneMore(b.Drops)
		return b, nil
	}
	b.F = wantLearn(b.F, id, f.Src, port)
	b.Vers = wantOneMore(b.Vers)
	return b, wantSent(b, port, id, f)
}

func sameOuts(a []impl.Out, b []impl.Out) bool {
	return slices.EqualFunc(a, b, func(x impl.Out, y impl.Out) bool { return x.Port == y.Port && sameFrameParts(x.F, y.F) })
}

func copiedOuts(l []impl.Out) []impl.Out {
	l = slices.Clone(l)
	for i := range l {
		l[i].F.Data = slices.Clone(l[i].F.Data)
	}
	return l
}

// ownMemory writes over all that goes out, and wants no two of its frames to share their bytes.
func ownMemory(t *testing.T, outs []impl.Out) {
	t.Helper()
	for i := range outs {
		overwrite(outs[i].F.Data, byte(200+i))
	}
	for i, o := range outs {
		if !bytes.Equal(o.F.Data, bytes.Repeat([]byte{byte(200 + i)}, len(o.F.Data))) {
			t.Fatalf("the frame %d shares its bytes with another one", i)
		}
	}
	overwrite(outs, impl.Out{Port: -7, F: impl.Frame{Dst: -7, Src: -7, Tag: -7}})
}

// sentOn hands a bridge and a frame in, with spare room behind all their lists
// and without, and wants nothing written there, neither by the call nor by who
// writes over the answer.
func sentOn(t *testing.T, b impl.Bridge, port int, f impl.Frame) (impl.Bridge, []impl.Out) {
	t.Helper()
	room := append(slices.Clone(f.Data), 101, 102, 103)
	kept := slices.Clone(room)
	var sent []impl.Out
	spare := 3
	after := handedTo(t, b, func(b impl.Bridge) impl.Bridge {
		handed := f
		handed.Data = room[: len(f.Data) : len(f.Data)+spare]
		spare = 0
		x, outs := impl.Forward(b, port, handed)
		sent = copiedOuts(outs)
		ownMemory(t, outs)
		return x
	})
	if !bytes.Equal(room, kept) {
		t.Fatalf("the bytes %x were written: %x", kept, room)
	}
	return after, sent
}

// promised wants of all that goes out what is promised of it, by the program's own words.
func promised(t *testing.T, b impl.Bridge, port int, f impl.Frame, after impl.Bridge, outs []impl.Out) {
	t.Helper()
	id, in := impl.ClassOf(b.V, port, f.Tag)
	sends, egress := impl.Sends(b.Id, b.Ports), impl.EgressOf(b.V, id)
	ahead, bits := -1, 0
	for _, o := range outs {
		if !in || !hasBit(sends, port) || o.Port == port || !hasBit(sends, o.Port) || !hasBit(egress, o.Port) {
			t.Errorf("Forward(%+v, %d, %+v) goes out by %d", b, port, f, o.Port)
		}
		if o.Port <= ahead {
			t.Errorf("Forward(%+v, %d, %+v): %d comes behind %d", b, port, f, o.Port, ahead)
		}
		if want := impl.Tagged(f, impl.ShownTag(b.V, id, o.Port)); !sameFrameParts(o.F, want) || !impl.FrameOk(o.F) {
			t.Errorf("Forward(%+v, %d, %+v): %+v; want %+v", b, port, f, o, want)
		}
		ahead = o.Port
		bits += 1 << o.Port
	}
	if got := impl.PortsOf(outs); got != bits {
		t.Errorf("PortsOf(%+v) = %b; want %b", outs, got, bits)
	}
	if impl.BridgeOk(b) != impl.BridgeOk(after) {
		t.Errorf("behind Forward(%+v, %d, %+v): %+v", b, port, f, after)
	}
}

// goesOn wants Forward to answer as its model does, and what is promised.
func goesOn(t *testing.T, b impl.Bridge, port int, f impl.Frame) (impl.Bridge, []impl.Out) {
	t.Helper()
	after, outs := sentOn(t, b, port, f)
	want, wantOuts := wantForward(b, port, f)
	if !sameBridgeParts(after, want) || !sameOuts(outs, wantOuts) {
		t.Errorf("Forward(%+v, %d, %+v) = %+v, %+v; want %+v, %+v", b, port, f, after, outs, want, wantOuts)
	}
	promised(t, b, port, f, after, outs)
	return after, outs
}

// outsText is of each that goes out its port and, where it bears a tag, `/` and that.
func outsText(outs []impl.Out) string {
	var words []string
	for _, o := range outs {
		word := strconv.Itoa(o.Port)
		if o.F.Tag != 0 {
			word += "/" + strconv.Itoa(o.F.Tag)
		}
		words = append(words, word)
	}
	return strings.Join(words, " ")
}

// goes wants a frame to be let in, and to go out by these ports, written out.
func goes(t *testing.T, b impl.Bridge, port int, f impl.Frame, want string) impl.Bridge {
	t.Helper()
	after, outs := goesOn(t, b, port, f)
	if text := outsText(outs); text != want {
		t.Errorf("Forward(%+v, %d, %+v) goes out by %q; want %q", b, port, f, text, want)
	}
	if after.Drops != b.Drops || after.Vers != min(b.Vers+1, 1000000) {
		t.Errorf("Forward(%+v, %d, %+v) was not let in: %+v", b, port, f, after)
	}
	return after
}

// notLetIn wants a frame to be dropped: but for Drops the bridge is as it was, and nothing goes out.
func notLetIn(t *testing.T, b impl.Bridge, port int, f impl.Frame) {
	t.Helper()
	after, outs := goesOn(t, b, port, f)
	want := copiedBridge(b)
	want.Drops = min(b.Drops+1, 1000000)
	if !sameBridgeParts(after, want) || len(outs) != 0 {
		t.Errorf("Forward(%+v, %d, %+v) = %+v, %+v; want it dropped", b, port, f, after, outs)
	}
}

// notTaken wants the bridge as it was, and nothing to go out.
func notTaken(t *testing.T, b impl.Bridge, port int, f impl.Frame) {
	t.Helper()
	if after, outs := goesOn(t, b, port, f); !sameBridgeParts(after, b) || len(outs) != 0 {
		t.Errorf("Forward(%+v, %d, %+v) = %+v, %+v; want it as it is, and nothing", b, port, f, after, outs)
	}
}

// openYard has ports for the root, told (1, 2 and 5), idle (3) and down (4). The
// network 1 has all but the port 4, and 20 all but the port 2; 30 has the port 2
// alone, and 40 none. What comes without a tag at the port 5 belongs to 20, at
// the port 4 to 1, where it is not let in.
func openYard() impl.Bridge {
	b := impl.BridgeNew(7, 6)
	b.Name, b.Ticks, b.Parse, b.Word, b.Drops, b.Vers = "yard", 11, 12, 13, 14, 15
	b.Ports = []impl.Pt{heardAt(impl.Vec{Root: 1, Bridge: 3}), silent(), silent(), heardAt(impl.Vec{Root: 1, Bridge: 4}), down(), silent()}
	b.V.Rows = []impl.Vrow{{Id: 1, Members: 0b101111, Bare: 0b001011}, {Id: 20, Members: 0b111011, Bare: 0b101000}, {Id: 30, Members: 0b000100}, {Id: 40}}
	b.V.Pvid = []int{1, 1, 1, 1, 1, 20}
	return b
}

// withThere is b with these who are somewhere, who were learned a while ago.
func withThere(b impl.Bridge, there ...impl.Fent) impl.Bridge {
	b.F = slices.Clone(there)
	for i := range b.F {
		if !b.F[i].Static {
			b.F[i].Age = 3
		}
	}
	return b
}

func TestOpenYard(t *testing.T) {
	b := openYard()
	rolesAre(t, 7, b.Ports, impl.RoRoot, impl.RoTold, impl.RoTold, impl.RoIdle, impl.RoDown, impl.RoTold)
	if !impl.BridgeOk(b) {
		t.Fatalf("BridgeOk(%+v) = false", b)
	}
}

func TestFramesToAll(t *testing.T) {
	b := openYard()
	f := impl.Frame{Src: 70, Data: []byte{7, 8}}
	x := goes(t, b, 0, f, "1 2/1 5/1")
	if !slices.Equal(x.F, []impl.Fent{{Tag: 1, Mac: 70, Port: 0}}) {
		t.Errorf("learned: %+v", x.F)
	}
	goes(t, b, 1, f, "0 2/1 5/1")
	goes(t, b, 2, f, "0 1 5/1")
	x = goes(t, b, 5, f, "0/20 1/20")
	if !slices.Equal(x.F, []impl.Fent{{Tag: 20, Mac: 70, Port: 5}}) {
		t.Errorf("learned: %+v", x.F)
	}
	goes(t, b, 2, impl.Frame{Src: 70, Tag: 30}, "")
	// Whoever is known, what is to all goes to all.
	b = withThere(b, impl.Fent{Tag: 1, Mac: 1, Port: 1}, impl.Fent{Tag: 1, Mac: 70, Port: 2, Static: true})
	goes(t, b, 0, f, "1 2/1 5/1")
}

func TestFramesToSomebodyKnown(t *testing.T) {
	for _, static := range []bool{false, true} {
		for _, at := range []struct {
			port int
			out  string
		}{{0, ""}, {1, "1"}, {2, "2/1"}, {3, ""}, {4, ""}, {5, "5/1"}, {6, ""}, {7, ""}} {
			b := withThere(openYard(), impl.Fent{Tag: 1, Mac: 80, Port: at.port, Static: static})
			f := impl.Frame{Dst: 80, Src: 70, Data: []byte("to one")}
			x := goes(t, b, 0, f, at.out)
			if len(x.F) != 2 || x.F[0] != (impl.Fent{Tag: 1, Mac: 70, Port: 0}) || x.F[1] != b.F[0] {
				t.Errorf("who is where: %+v", x.F)
			}
		}
		for _, at := range []struct {
			port int
			out  string
		}{{0, "0/20"}, {1, "1/20"}, {2, ""}, {3, ""}, {4, ""}, {5, ""}, {6, ""}, {7, ""}} {
			b := withThere(openYard(), impl.Fent{Tag: 20, Mac: 80, Port: at.port, Static: static})
			goes(t, b, 5, impl.Frame{Dst: 80, Src: 70}, at.out)
			goes(t, b, 5, impl.Frame{Dst: 80, Src: 70, Tag: 20}, at.out)
		}
	}
}

func TestFramesToSomebodyNotKnown(t *testing.T) {
	b := openYard()
	goes(t, b, 0, impl.Frame{Dst: 80, Src: 70}, "1 2/1 5/1")
	goes(t, b, 0, impl.Frame{Dst: 80, Src: 70, Tag: 20}, "1/20 5")
	// Who is known in another network is not known in this one.
	b = withThere(b, impl.Fent{Tag: 1, Mac: 79, Port: 1}, impl.Fent{Tag: 1, Mac: 81, Port: 1}, impl.Fent{Tag: 20, Mac: 80, Port: 1})
	goes(t, b, 0, impl.Frame{Dst: 80, Src: 70}, "1 2/1 5/1")
	goes(t, b, 0, impl.Frame{Dst: 80, Src: 70, Tag: 20}, "1/20")
	goes(t, b, 0, impl.Frame{Dst: 79, Src: 70}, "1")
	goes(t, b, 0, impl.Frame{Dst: 79, Src: 70, Tag: 20}, "1/20 5")
	for _, dst := range []int{1, 78, 82, 9999} {
		goes(t, b, 0, impl.Frame{Dst: dst, Src: 70, Tag: 1}, "1 2/1 5/1")
	}
}

// A tag that is told and one that is not are the same, where they are of one network.
func TestTagsThatAreToldAndThatAreNot(t *testing.T) {
	b := openYard()
	for _, f := range []impl.Frame{{Src: 70}, {Src: 70, Tag: 1}} {
		goes(t, b, 0, f, "1 2/1 5/1")
		goes(t, b, 1, f, "0 2/1 5/1")
		goes(t, b, 2, f, "0 1 5/1")
	}
	for _, f := range []impl.Frame{{Src: 70}, {Src: 70, Tag: 20}} {
		goes(t, b, 5, f, "0/20 1/20")
	}
	goes(t, b, 5, impl.Frame{Src: 70, Tag: 1}, "0 1 2/1")
	goes(t, b, 0, impl.Frame{Src: 70, Tag: 20}, "1/20 5")
	b.V.Rows[0].Bare, b.V.Rows[1].Bare = 0, b.V.Rows[1].Members
	goes(t, b, 0, impl.Frame{Src: 70}, "1/1 2/1 5/1")
	goes(t, b, 0, impl.Frame{Src: 70, Tag: 20}, "1 5")
	b.V.Rows[0].Bare = b.V.Rows[0].Members
	goes(t, b, 0, impl.Frame{Src: 70, Tag: 1}, "1 2 5")
}

func TestWhoAFrameComesFrom(t *testing.T) {
	f := impl.Frame{Src: 70}
	learned := impl.Fent{Tag: 1, Mac: 70, Port: 2}
	x := goes(t, openYard(), 2, f, "0 1 5/1")
	if !slices.Equal(x.F, []impl.Fent{learned}) {
		t.Errorf("somebody new: %+v", x.F)
	}
	for port := range 8 {
		b := withThere(openYard(), impl.Fent{Tag: 1, Mac: 70, Port: port})
		if x := goes(t, b, 2, f, "0 1 5/1"); !slices.Equal(x.F, []impl.Fent{learned}) {
			t.Errorf("somebody who was at the port %d: %+v", port, x.F)
		}
		b = withThere(openYard(), impl.Fent{Tag: 1, Mac: 70, Port: port, Static: true})
		if x := goes(t, b, 2, f, "0 1 5/1"); !slices.Equal(x.F, b.F) || x.Vers != 16 {
			t.Errorf("somebody static at the port %d: %+v", port, x)
		}
	}
	b := withThere(openYard(), impl.Fent{Tag: 1, Mac: 69, Port: 1}, impl.Fent{Tag: 1, Mac: 71, Port: 1}, impl.Fent{Tag: 20, Mac: 70, Port: 1})
	want := []impl.Fent{b.F[0], learned, b.F[1], b.F[2]}
	if x := goes(t, b, 2, f, "0 1 5/1"); !slices.Equal(x.F, want) {
		t.Errorf("between others: %+v; want %+v", x.F, want)
	}
	if x := goes(t, b, 2, impl.Frame{Src: 1, Tag: 30}, ""); !slices.Contains(x.F, impl.Fent{Tag: 30, Mac: 1, Port: 2}) {
		t.Errorf("alone in its network: %+v", x.F)
	}
}

// As many as there may be are somewhere: nobody new is learned, but the frame goes on, and who is there is learned.
func TestFramesWhereThereIsNoRoom(t *testing.T) {
	b := openYard()
	for i := range impl.MaxFdb {
		b.F = append(b.F, impl.Fent{Tag: 1, Mac: 100 + i, Port: i % 3, Age: 2})
	}
	x := goes(t, b, 0, impl.Frame{Src: 70}, "1 2/1 5/1")
	if !slices.Equal(x.F, b.F) || x.Vers != 16 {
		t.Errorf("without room: %+v", x)
	}
	goes(t, b, 0, impl.Frame{Dst: 101, Src: 70}, "1")
	goes(t, b, 0, impl.Frame{Dst: 100, Src: 70}, "")
	goes(t, b, 0, impl.Frame{Dst: 99, Src: 70}, "1 2/1 5/1")
	goes(t, b, 0, impl.Frame{Dst: 111, Src: 70, Tag: 20}, "1/20 5")
	// To whom it comes from, of whom there is nothing to be looked up.
	goes(t, b, 0, impl.Frame{Dst: 70, Src: 70}, "1 2/1 5/1")
	for i := range impl.MaxFdb {
		x := goes(t, b, 5, impl.Frame{Src: 100 + i, Tag: 1}, "0 1 2/1")
		if len(x.F) != 12 || x.F[i] != (impl.Fent{Tag: 1, Mac: 100 + i, Port: 5}) {
			t.Errorf("who is there already: %+v", x.F)
		}
	}
	b.F = b.F[1:]
	x = goes(t, b, 0, impl.Frame{Src: 70}, "1 2/1 5/1")
	if len(x.F) != 12 || x.F[0] != (impl.Fent{Tag: 1, Mac: 70, Port: 0}) {
		t.Errorf("room for one: %+v", x.F)
	}
}

func TestFramesBack(t *testing.T) {
	b := goes(t, openYard(), 0, impl.Frame{Dst: 80, Src: 70}, "1 2/1 5/1")
	b = goes(t, b, 2, impl.Frame{Dst: 70, Src: 80}, "0")
	b = goes(t, b, 0, impl.Frame{Dst: 80, Src: 70}, "2/1")
	if b.Vers != 18 || b.Drops != 14 || !slices.Equal(b.F, []impl.Fent{{Tag: 1, Mac: 70, Port: 0}, {Tag: 1, Mac: 80, Port: 2}}) {
		t.Errorf("there, back, and there: %+v", b)
	}
	// 70 has come to another port: what goes back goes there.
	b = goes(t, b, 5, impl.Frame{Dst: 80, Src: 70, Tag: 1}, "2/1")
	b = goes(t, b, 2, impl.Frame{Dst: 70, Src: 80}, "5/1")
	// In another network neither is known.
	b = goes(t, b, 1, impl.Frame{Dst: 70, Src: 80, Tag: 20}, "0/20 5")
	b = goes(t, b, 5, impl.Frame{Dst: 80, Src: 70}, "1/20")
	goes(t, b, 1, impl.Frame{Dst: 70, Src: 80, Tag: 20}, "5")
	// Who was there and is too old is not known any more.
	for range impl.MaxAge {
		b = impl.Tick(b)
	}
	goes(t, b, 2, impl.Frame{Dst: 70, Src: 80}, "0 1 5/1")
}

// It is learned first where a frame comes from, so that one to its own sender is to the port by which it came.
func TestFramesToTheirOwnSender(t *testing.T) {
	f := impl.Frame{Dst: 70, Src: 70}
	goes(t, openYard(), 0, f, "")
	goes(t, withThere(openYard(), impl.Fent{Tag: 1, Mac: 70, Port: 2}), 0, f, "")
	goes(t, withThere(openYard(), impl.Fent{Tag: 1, Mac: 70, Port: 2, Static: true}), 0, f, "2/1")
	goes(t, withThere(openYard(), impl.Fent{Tag: 1, Mac: 70, Port: 0, Static: true}), 0, f, "")
}

// Frames that are not let in: nobody is learned, whoever they are to and from.
func TestFramesThatAreNotLetIn(t *testing.T) {
	empty := openYard()
	there := withThere(empty, impl.Fent{Tag: 1, Mac: 70, Port: 1}, impl.Fent{Tag: 1, Mac: 80, Port: 2}, impl.Fent{Tag: 20, Mac: 80, Port: 1, Static: true})
	for _, b := range []impl.Bridge{empty, there} {
		for _, f := range []impl.Frame{{Src: 70}, {Dst: 80, Src: 70}, {Dst: 70, Src: 80}, {Dst: 9999, Src: 1, Data: filled(20)}} {
			for tag := range 100 {
				f.Tag = tag
				for _, port := range []int{3, 4} {
					notLetIn(t, b, port, f)
				}
				for port, tags := range map[int][]int{0: {0, 1, 20}, 1: {0, 1, 20}, 2: {0, 1, 30}, 5: {0, 1, 20}} {
					if !slices.Contains(tags, tag) {
						notLetIn(t, b, port, f)
					}
				}
			}
		}
	}
}

// A frame is dropped once, even where both its port does not send and its tag is not let in.
func TestFramesThatAreNotLetInForTwoReasons(t *testing.T) {
	b := openYard()
	for _, n := range []struct{ port, tag int }{{3, 30}, {3, 40}, {3, 99}, {4, 0}, {4, 1}, {4, 30}, {4, 99}} {
		notLetIn(t, b, n.port, impl.Frame{Src: 70, Tag: n.tag})
	}
}

// The network to which a port's frames without a tag belong need not have that port.
func TestFramesWithoutATagThatAreNotLetIn(t *testing.T) {
	b := openYard()
	for _, id := range []int{30, 40} {
		b.V.Pvid[0] = id
		notLetIn(t, b, 0, impl.Frame{Src: 70})
		notLetIn(t, b, 0, impl.Frame{Src: 70, Tag: id})
		goes(t, b, 0, impl.Frame{Src: 70, Tag: 1}, "1 2/1 5/1")
	}
	b.V.Pvid[2] = 30
	goes(t, b, 2, impl.Frame{Src: 70}, "")
	goes(t, b, 2, impl.Frame{Src: 70, Tag: 30}, "")
}

// Nobody is flushed by a frame: who stands at a port that does not send is known there.
func TestNobodyIsFlushedByAFrame(t *testing.T) {
	b := openYard()
	for port := range 8 {
		b.F = append(b.F, impl.Fent{Tag: 1, Mac: 80 + port, Port: port, Age: 4})
	}
	x := goes(t, b, 0, impl.Frame{Dst: 83, Src: 90}, "")
	if !slices.Equal(x.F, append(slices.Clone(b.F), impl.Fent{Tag: 1, Mac: 90})) {
		t.Errorf("behind a frame: %+v", x.F)
	}
	goes(t, x, 0, impl.Frame{Dst: 83, Src: 90}, "")
	notLetIn(t, b, 3, impl.Frame{Dst: 83, Src: 90})
	goes(t, impl.Tick(b), 0, impl.Frame{Dst: 83, Src: 90}, "1 2/1 5/1")
}

// The first port, the last one, and those beyond either, of each number of ports.
func TestPortsThatFramesComeBy(t *testing.T) {
	for ports := 1; ports <= impl.MaxPorts; ports++ {
		b := impl.BridgeNew(9, ports)
		for port := range ports {
			notLetIn(t, b, port, impl.Frame{Src: 70})
			b = impl.LinkSet(b, port, true)
		}
		for _, port := range portsAround(b.Ports) {
			if port < 0 || port >= ports {
				notTaken(t, b, port, impl.Frame{Src: 70})
				notTaken(t, b, port, impl.Frame{Src: 70, Tag: 99})
				continue
			}
			others := strings.Fields(strings.Replace("0 1 2 3 4 5"[:2*ports-1], strconv.Itoa(port), "", 1))
			x := goes(t, b, port, impl.Frame{Src: 70}, strings.Join(others, " "))
			goes(t, b, port, impl.Frame{Dst: 80, Src: 70, Tag: 1}, strings.Join(others, " "))
			notLetIn(t, b, port, impl.Frame{Src: 70, Tag: 2})
			for back := range ports {
				want := strconv.Itoa(port)
				if back == port {
					want = ""
				}
				goes(t, x, back, impl.Frame{Dst: 70, Src: 80}, want)
			}
		}
	}
}

func TestOnePortAlone(t *testing.T) {
	b := impl.BridgeNew(1, 1)
	notLetIn(t, b, 0, impl.Frame{Src: 70})
	b = impl.LinkSet(b, 0, true)
	b = goes(t, b, 0, impl.Frame{Src: 70}, "")
	b = goes(t, b, 0, impl.Frame{Dst: 70, Src: 80}, "")
	b = goes(t, b, 0, impl.Frame{Dst: 90, Src: 80, Tag: 1}, "")
	if b.Vers != 4 || !slices.Equal(b.F, []impl.Fent{{Tag: 1, Mac: 70}, {Tag: 1, Mac: 80}}) {
		t.Errorf("three frames: %+v", b)
	}
	// The bridge hears itself there: its one port is idle.
	b = impl.HearVec(b, 0, impl.SayVec(1, b.Ports, 0))
	notLetIn(t, b, 0, impl.Frame{Src: 70})
}

func TestDropsAndVersThatStay(t *testing.T) {
	for _, n := range []struct{ count, next int }{{0, 1}, {1, 2}, {999998, 999999}, {999999, 1000000}, {1000000, 1000000}} {
		for _, other := range []int{0, 500, 999999, 1000000} {
			b := openYard()
			b.Ticks, b.Parse, b.Word, b.Drops, b.Vers = 1000000, 999999, 0, other, n.count
			x := goes(t, b, 0, impl.Frame{Src: 70}, "1 2/1 5/1")
			if x.Vers != n.next || x.Drops != other || len(x.F) != 1 {
				t.Errorf("Vers of %d, Drops of %d: %+v", n.count, other, x)
			}
			b.Drops, b.Vers = n.count, other
			x, outs := goesOn(t, b, 3, impl.Frame{Src: 70})
			y, more := goesOn(t, b, 0, impl.Frame{Src: 70, Tag: 30})
			for _, z := range []impl.Bridge{x, y} {
				if z.Drops != n.next || z.Vers != other || len(z.F) != 0 || len(outs)+len(more) != 0 {
					t.Errorf("Drops of %d, Vers of %d: %+v", n.count, other, z)
				}
			}
		}
	}
}

func TestFramesThatAreNone(t *testing.T) {
	wrong := []impl.Frame{{}, {Dst: 1}, {Src: 70, Data: filled(21)}, {Src: 70, Data: filled(300)}}
	for _, n := range []int{-1, -2, -9999, 10000, 10001, 1 << 32, math.MaxInt, math.MinInt} {
		wrong = append(wrong, impl.Frame{Dst: n, Src: 70}, impl.Frame{Src: n}, impl.Frame{Dst: 80, Src: n, Tag: 20})
	}
	for _, n := range []int{-1, -20, 100, 101, 1 << 32, math.MaxInt, math.MinInt} {
		wrong = append(wrong, impl.Frame{Src: 70, Tag: n}, impl.Frame{Dst: 80, Src: 70, Tag: n})
	}
	b := withThere(openYard(), impl.Fent{Tag: 1, Mac: 70, Port: 1}, impl.Fent{Tag: 1, Mac: 80, Port: 2})
	for _, f := range wrong {
		for port := -1; port <= 6; port++ {
			notTaken(t, b, port, f)
		}
	}
	for _, f := range []impl.Frame{{Src: 1}, {Src: 9999, Data: filled(20)}, {Dst: 1, Src: 1}, {Dst: 9999, Src: 9998, Data: filled(19)}} {
		if x, _ := goesOn(t, b, 0, f); x.Vers != 16 {
			t.Errorf("%+v was not let in: %+v", f, x)
		}
	}
}

func TestFramesAtBridgesThatAreWrong(t *testing.T) {
	spoil := []func(b *impl.Bridge){
		func(b *impl.Bridge) { b.Id = 0 },
		func(b *impl.Bridge) { b.Id = 100 },
		func(b *impl.Bridge) { b.Name = "eleven-byte" },
		func(b *impl.Bridge) { b.Ports = nil },
		func(b *impl.Bridge) { b.Ports = b.Ports[:5] },
		func(b *impl.Bridge) { b.Ports = append(b.Ports, silent()) },
		func(b *impl.Bridge) { b.Ports[1].Cost = 0 },
		func(b *impl.Bridge) { b.Ports[5].Heard.Root = 1 },
		func(b *impl.Bridge) { b.F[0].Age = 5 },
		func(b *impl.Bridge) { slices.Reverse(b.F) },
		func(b *impl.Bridge) { b.F = append(fullFdb(), impl.Fent{Tag: 99, Mac: 1}) },
		func(b *impl.Bridge) { b.V = impl.Vtab{} },
		func(b *impl.Bridge) { b.V.Pvid[0] = 2 },
		func(b *impl.Bridge) { b.V.Pvid = append(b.V.Pvid, 1) },
		func(b *impl.Bridge) { b.V.Rows[0].Members |= 1 << 6 },
		func(b *impl.Bridge) { b.V.Rows[0].Bare |= 1 << 4 },
		func(b *impl.Bridge) { slices.Reverse(b.V.Rows) },
		func(b *impl.Bridge) { *b = impl.Bridge{} },
	}
	for _, count := range bridgeCounts() {
		spoil = append(spoil, func(b *impl.Bridge) { *count.of(b) = -1 }, func(b *impl.Bridge) { *count.of(b) = 1000001 })
	}
	for i, spoiled := range spoil {
		b := withThere(copiedBridge(openYard()), impl.Fent{Tag: 1, Mac: 70, Port: 1}, impl.Fent{Tag: 1, Mac: 80, Port: 2})
		spoiled(&b)
		if impl.BridgeOk(b) {
			t.Errorf("the bridge %d is right: %+v", i, b)
		}
		for port := -1; port <= 7; port++ {
			for _, f := range []impl.Frame{{Src: 70}, {Dst: 80, Src: 90}, {Src: 70, Tag: 30}, {}} {
				notTaken(t, b, port, f)
			}
		}
	}
}

// The bytes of a frame are the same wherever it goes out, and each has its own.
func TestBytesOfFramesThatGoOn(t *testing.T) {
	b := impl.BridgeNew(9, 6)
	for port := range 6 {
		b = impl.LinkSet(b, port, true)
	}
	for size := range 21 {
		data := filled(size)
		_, outs := goesOn(t, b, 2, impl.Frame{Dst: 80, Src: 70, Data: data})
		if outsText(outs) != "0 1 3 4 5" {
			t.Errorf("%d bytes go out by %q", size, outsText(outs))
		}
		for _, o := range outs {
			if !bytes.Equal(o.F.Data, data) || o.F.Dst != 80 || o.F.Src != 70 {
				t.Errorf("%d bytes: %+v", size, o)
			}
		}
	}
	for _, o := range []impl.Frame{{Src: 70}, {Src: 70, Data: []byte{}}} {
		if _, outs := impl.Forward(b, 0, o); len(outs) != 5 || len(outs[0].F.Data) != 0 {
			t.Errorf("without bytes: %+v", outs)
		}
	}
}

func TestPortsOf(t *testing.T) {
	at := func(ports ...int) []impl.Out {
		var l []impl.Out
		for _, port := range ports {
			l = append(l, impl.Out{Port: port, F: impl.Frame{Src: 1 + len(l), Data: []byte{1}}})
		}
		return l
	}
	for _, c := range []struct {
		l    []impl.Out
		bits int
	}{
		{nil, 0},
		{[]impl.Out{}, 0},
		{at(0), 1},
		{at(3), 8},
		{at(5), 32},
		{at(0, 1), 3},
		{at(1, 3, 5), 42},
		{at(5, 3, 1), 42},
		{at(0, 1, 2, 3, 4, 5), 63},
		{at(2, 2), 4},
		{at(2, 0, 2, 2), 5},
		{at(6, 7), 192},
		{at(62), 1 << 62},
		// Ports for which there is no bit.
		{at(-1), 0},
		{at(-1, 2, math.MinInt), 4},
		{at(64, 1, math.MaxInt), 2},
	} {
		kept := copiedOuts(c.l)
		if bits := impl.PortsOf(c.l); bits != c.bits {
			t.Errorf("PortsOf(%+v) = %b; want %b", c.l, bits, c.bits)
		}
		if !sameOuts(c.l, kept) {
			t.Errorf("%+v was written: %+v", kept, c.l)
		}
		behind := append(c.l, impl.Out{Port: 4})
		if bits := impl.PortsOf(behind[:len(c.l)]); bits != c.bits {
			t.Errorf("PortsOf(%+v), with one behind it, = %b; want %b", c.l, bits, c.bits)
		}
	}
	for bits := range 64 {
		var ports []int
		for port := range 6 {
			if hasBit(bits, port) {
				ports = append(ports, port)
			}
		}
		if got := impl.PortsOf(at(ports...)); got != bits {
			t.Errorf("PortsOf the ports %v = %b", ports, got)
		}
	}
}

// All bridges of three ports for the root, told, idle or down, with all that a
// network can have of them, and somebody at each place.
func TestFramesAtAllSmallBridges(t *testing.T) {
	kinds := []impl.Pt{heardAt(impl.Vec{Root: 1, Bridge: 3}), silent(), heardAt(impl.Vec{Root: 7, Bridge: 6}), down()}
	for n := range 64 {
		b := impl.BridgeNew(7, 3)
		b.Ports = []impl.Pt{kinds[n%4], kinds[n/4%4], kinds[n/16]}
		for members := range 8 {
			for bare := range 8 {
				if bare&^members != 0 {
					continue
				}
				b.V.Rows = []impl.Vrow{{Id: 1, Members: 7}, {Id: 20, Members: members, Bare: bare}}
				for at := -1; at <= 3; at++ {
					if b.F = nil; at >= 0 {
						b.F = []impl.Fent{{Tag: 20, Mac: 80, Port: at, Static: bare == 0}}
					}
					for port := range 3 {
						b.V.Pvid = []int{1, 1, 1}
						goesOn(t, b, port, impl.Frame{Dst: 80, Src: 70, Tag: 20})
						goesOn(t, b, port, impl.Frame{Src: 80, Tag: 20, Data: []byte{1}})
						b.V.Pvid[port] = 20
						goesOn(t, b, port, impl.Frame{Dst: 80, Src: 80})
					}
				}
			}
		}
	}
}

// Whatever comes, in any order, the bridge stays right, and a frame goes out by no wrong port.
func TestFramesWhateverHappens(t *testing.T) {
	draw := uint64(12)
	next := func(below int) int {
		draw = draw*6364136223846793005 + 1442695040888963407
		return int(draw>>33) % below
	}
	out, dropped := 0, 0
	for range 300 {
		ports := 1 + next(6)
		b := impl.BridgeNew(1+next(5), ports)
		for port := range ports {
			b = impl.LinkSet(b, port, next(5) > 0)
		}
		for range 60 {
			port := next(ports+2) - 1
			switch next(12) {
			case 0:
				b = impl.LinkSet(b, port, next(4) > 0)
			case 1:
				b = impl.HearVec(b, port, impl.Vec{Root: 1 + next(6), Cost: next(3), Hops: next(9), Bridge: 1 + next(5), Port: next(8)})
			case 2:
				b = impl.Tick(b)
			case 3:
				members := next(1 << ports)
				b.V, _ = impl.PutRow(b.V, impl.Vrow{Id: 1 + next(3), Members: members, Bare: members & next(1<<ports)})
			case 4:
				b.V, _ = impl.SetPvid(b.V, port, 1+next(3))
			case 5:
				b.F, _ = impl.SetStatic(b.F, 1+next(3), 1+next(6), next(8))
			default:
				f := impl.Frame{Dst: next(7), Src: next(7), Tag: next(5), Data: filled(next(22))}
				was := b.Drops
				var outs []impl.Out
				b, outs = goesOn(t, b, port, f)
				out, dropped = out+len(outs), dropped+b.Drops-was
			}
			if !impl.BridgeOk(b) {
				t.Fatalf("not right: %+v", b)
			}
		}
	}
	if out < 1000 || dropped < 1000 {
		t.Errorf("%d went out, and %d were dropped: too few to tell", out, dropped)
	}
}

// Nothing is kept from one call to another.
func TestFramesHangOnWhatIsHandedInAlone(t *testing.T) {
	b := openYard()
	first, sent := goesOn(t, b, 0, impl.Frame{Dst: 80, Src: 70})
	for range 3 {
		goesOn(t, b, 2, impl.Frame{Dst: 70, Src: 80})
		goesOn(t, first, 2, impl.Frame{Dst: 70, Src: 80})
		notLetIn(t, b, 3, impl.Frame{Src: 70})
		if x, outs := goesOn(t, b, 0, impl.Frame{Dst: 80, Src: 70}); !sameBridgeParts(x, first) || !sameOuts(outs, sent) {
			t.Errorf("%+v, %+v; it was %+v, %+v", x, outs, first, sent)
		}
	}
}

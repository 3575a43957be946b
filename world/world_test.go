package world

import (
	"fmt"
	"math"
	"slices"
	"testing"

	"aviary/api"
	"aviary/tree"
)

// at is a transaction's number: epoch and count.
func at(epoch, count int) int { return epoch<<31 + count }

func open() api.Request { return api.Request{Op: api.OpOpen} }

func closed() api.Request { return api.Request{Op: api.OpClose} }

func made(p, data string) api.Request {
	return api.Request{Op: api.OpCreate, Path: p, Data: data}
}

func gone(p string) api.Request { return api.Request{Op: api.OpDelete, Path: p, Version: -1} }

func set(p, data string) api.Request {
	return api.Request{Op: api.OpSet, Path: p, Data: data, Version: -1}
}

func writing(c int, r api.Request) api.Deed {
	return api.Deed{Kind: api.DeedWrite, Client: c, Request: r}
}

// lossy is a write of client 0 with letters that are lost, or slow.
func lossy(r api.Request, lost, slow int) api.Deed {
	return api.Deed{Kind: api.DeedWrite, Request: r, Lost: lost, Slow: slow}
}

func reading(c, s int, p string) api.Deed {
	return api.Deed{Kind: api.DeedRead, Client: c, Server: s, Request: api.Request{Path: p}}
}

func watching(c, s int, p string) api.Deed {
	d := reading(c, s, p)
	d.Watch = true
	return d
}

func crashing(s, keep int) api.Deed { return api.Deed{Kind: api.DeedCrash, Server: s, Keep: keep} }

func rising(s int) api.Deed { return api.Deed{Kind: api.DeedUp, Server: s} }

func electing() api.Deed { return api.Deed{Kind: api.DeedElect} }

func sameServer(a, b api.Server) bool {
	return a.Up == b.Up && slices.Equal(a.Disk.Files, b.Disk.Files) && slices.Equal(a.Watches, b.Watches) &&
		a.Peer.Id == b.Peer.Id && a.Peer.Epoch == b.Peer.Epoch && a.Peer.Done == b.Peer.Done && slices.Equal(a.Peer.Log, b.Peer.Log) &&
		a.Tree.Zxid == b.Tree.Zxid && slices.Equal(a.Tree.Nodes, b.Tree.Nodes) && slices.Equal(a.Tree.Sessions, b.Tree.Sessions)
}

func sameClient(a, b api.Client) bool {
	return a.Session == b.Session && a.Seen == b.Seen && slices.Equal(a.Cache, b.Cache)
}

func sameReply(a, b api.Reply) bool {
	return a.Code == b.Code && a.Zxid == b.Zxid && a.Path == b.Path && a.Data == b.Data && a.Stat == b.Stat && slices.Equal(a.Notes, b.Notes)
}

// view is all that a world tells of itself.
type view struct {
	servers [3]api.Server
	clients [16]api.Client
	leader  int
	done    []api.Txn
}

func seen(w *World) view {
	v := view{leader: w.Leader(), done: w.Acknowledged()}
	for i := range v.servers {
		v.servers[i] = w.Server(i)
	}
	for i := range v.clients {
		v.clients[i] = w.Client(i)
	}
	return v
}

func sameView(a, b view) bool {
	same := a.leader == b.leader && slices.Equal(a.done, b.done)
	for i := range a.servers {
		same = same && sameServer(a.servers[i], b.servers[i])
	}
	for i := range a.clients {
		same = same && sameClient(a.clients[i], b.clients[i])
	}
	return same
}

// does holds a world to a reply.
func does(t *testing.T, w *World, d api.Deed, want api.Reply) {
	t.Helper()
	if got := w.Do(d); !sameReply(got, want) {
		t.Errorf("%+v: %+v; asked for %+v", d, got, want)
	}
}

// refuses holds a world to an error, and to its staying as it is.
func refuses(t *testing.T, w *World, d api.Deed, want api.Errno) {
	t.Helper()
	before := seen(w)
	does(t, w, d, api.Reply{Code: want})
	if after := seen(w); !sameView(after, before) {
		t.Errorf("%+v: %d changed %s to %s", d, want, short(before), short(after))
	}
}

// after is a new world behind deeds that are all done.
func after(t *testing.T, l ...api.Deed) *World {
	t.Helper()
	w := New()
	for _, d := range l {
		if r := w.Do(d); r.Code != api.OK {
			t.Fatalf("%+v: %+v", d, r)
		}
	}
	return w
}

// led is a world that server 2 leads, with the sessions of clients 0 and 1 open, and the node /a: numbers 1.1 to 1.3.
func led(t *testing.T, more ...api.Deed) *World {
	t.Helper()
	first := []api.Deed{electing(), writing(0, open()), writing(1, open()), writing(0, made("/a", "x"))}
	return after(t, append(first, more...)...)
}

// logs holds the servers to how many transactions they have, and how many of these are done.
func logs(t *testing.T, w *World, have, done [3]int) {
	t.Helper()
	for i := range 3 {
		if p := w.Server(i).Peer; len(p.Log) != have[i] || p.Done != done[i] {
			t.Errorf("server %d has %d, %d done; asked for %d, %d", i, len(p.Log), p.Done, have[i], done[i])
		}
	}
}

// unled holds a world to its having no leader, and nobody who follows.
func unled(t *testing.T, w *World) {
	t.Helper()
	if w.Leader() != -1 || w.roles != [3]role{} {
		t.Errorf("%d leads: %v", w.Leader(), w.roles)
	}
}

// short is a text of a thing, whatever bytes are in it.
func short(a any) string { return fmt.Sprintf("%.900q", fmt.Sprint(a)) }

// P14.1: all servers are up with an empty log on their disks, all clients have seen nothing, nobody leads.
func TestNew(t *testing.T) {
	w := New()
	for i := range 3 {
		want := api.Server{Up: true, Disk: api.Disk{Files: []api.File{{Name: "log"}}}, Peer: api.Peer{Id: i}, Tree: tree.New()}
		if got := w.Server(i); !sameServer(got, want) {
			t.Errorf("server %d: %v", i, got)
		}
	}
	for i := range 16 {
		if got := w.Client(i); !sameClient(got, api.Client{Session: i + 1}) {
			t.Errorf("client %d: %v", i, got)
		}
	}
	if len(w.Acknowledged()) != 0 {
		t.Errorf("%v", w.Acknowledged())
	}
	unled(t, w)
}

// P14.1: no server follows at first: one that goes down and comes up leaves nothing to be seen, and a write is refused.
func TestNewFollows(t *testing.T) {
	for i := range 3 {
		w := after(t, crashing(i, 0), rising(i))
		if !sameView(seen(w), seen(New())) {
			t.Errorf("server %d: %s", i, short(seen(w)))
		}
		refuses(t, w, writing(0, open()), api.ErrDown)
	}
}

// P14.1: there are no servers and clients of other numbers.
func TestNumbers(t *testing.T) {
	w := led(t)
	for _, i := range []int{-1, 3, 4, 16, math.MinInt, math.MaxInt, 1 << 32, 1 << 40} {
		if got := w.Server(i); !sameServer(got, api.Server{}) {
			t.Errorf("server %d: %v", i, got)
		}
	}
	for _, i := range []int{-1, 16, 17, math.MinInt, math.MaxInt, 1 << 32, 1 << 40} {
		if got := w.Client(i); !sameClient(got, api.Client{}) {
			t.Errorf("client %d: %v", i, got)
		}
	}
	if w.Client(15).Session != 16 || !w.Server(2).Up || w.Server(2).Peer.Id != 2 {
		t.Error("the last ones")
	}
}

// P14.1: a nil world is a world of nothing.
func TestNil(t *testing.T) {
	var w *World
	for i := -1; i < 17; i++ {
		if !sameServer(w.Server(i), api.Server{}) || !sameClient(w.Client(i), api.Client{}) {
			t.Errorf("%d: %v, %v", i, w.Server(i), w.Client(i))
		}
	}
	if w.Leader() != -1 || len(w.Acknowledged()) != 0 {
		t.Errorf("%d, %v", w.Leader(), w.Acknowledged())
	}
	for kind := -1; kind < 8; kind++ {
		for _, n := range []int{0, -1, 99} {
			does(t, w, api.Deed{Kind: kind, Client: n, Server: n}, api.Reply{Code: api.ErrDown})
		}
	}
	for range 400 {
		does(t, w, electing(), api.Reply{Code: api.ErrDown})
	}
}

// What holds everywhere: a world that was not made by New ends its calls, too.
func TestZeroWorld(t *testing.T) {
	for kind := range 7 {
		w := &World{}
		for i := range 3 {
			w.Do(api.Deed{Kind: kind, Server: i, Client: i, Request: open(), Watch: true})
			w.Do(rising(i))
		}
		w.Do(electing())
		w.Do(api.Deed{Kind: kind, Request: open()})
		w.Do(writing(0, open()))
		w.Do(watching(0, 0, "/"))
		w.Do(crashing(0, 1))
	}
	if w := new(World); w.Leader() != -1 {
		t.Errorf("%d leads", w.Leader())
	}
}

// P14.1: the transactions of writes that were answered OK, in order: neither those that were refused nor those that were lost.
func TestAcknowledged(t *testing.T) {
	w := led(t, writing(1, set("/a", "y")))
	want := []api.Txn{
		{Zxid: at(1, 1), Op: api.OpOpen, Session: 1},
		{Zxid: at(1, 2), Op: api.OpOpen, Session: 2},
		{Zxid: at(1, 3), Op: api.OpCreate, Session: 1, Path: "/a", Data: "x"},
		{Zxid: at(1, 4), Op: api.OpSet, Session: 2, Path: "/a", Data: "y", Version: 1},
	}
	told := func() {
		t.Helper()
		if got := w.Acknowledged(); !slices.Equal(got, want) {
			t.Errorf("%v; asked for %v", got, want)
		}
	}
	told()
	refuses(t, w, writing(0, made("/a", "")), api.ErrTwice)
	told()
	does(t, w, lossy(set("/a", "z"), 3, 0), api.Reply{Code: api.ErrLost, Zxid: at(1, 5)})
	told()
	// It is done after all, but nobody was told so.
	does(t, w, electing(), api.Reply{Zxid: at(1, 5)})
	told()
	does(t, w, writing(1, closed()), api.Reply{Zxid: at(2, 1)})
	want = append(want, api.Txn{Zxid: at(2, 1), Op: api.OpClose, Session: 2})
	told()
	for i := range 3 {
		w.Do(crashing(i, 0))
	}
	told()
}

// P14.2: kinds that are none of the five, ahead of wrong numbers.
func TestKinds(t *testing.T) {
	for _, w := range []*World{New(), led(t)} {
		for _, kind := range []int{0, 6, 7, -1, math.MinInt, math.MaxInt, 1<<32 + 1, 257} {
			for _, n := range []int{0, -1, 99} {
				refuses(t, w, api.Deed{Kind: kind, Client: n, Server: n, Request: open(), Keep: n}, api.ErrKind)
			}
		}
	}
}

// P14.2: numbers out of their bounds, of the deeds that ask for them, ahead of all that the world says.
func TestRanges(t *testing.T) {
	none := after(t, crashing(0, 0), crashing(1, 0), crashing(2, 0))
	for _, w := range []*World{New(), led(t), none} {
		for _, c := range []int{-1, 16, math.MinInt, math.MaxInt, 1 << 32} {
			refuses(t, w, writing(c, open()), api.ErrRange)
			refuses(t, w, reading(c, 0, "/"), api.ErrRange)
			refuses(t, w, watching(c, 2, "/"), api.ErrRange)
			refuses(t, w, reading(c, 3, "/"), api.ErrRange)
		}
		for _, s := range []int{-1, 3, math.MinInt, math.MaxInt, 1 << 32} {
			refuses(t, w, reading(0, s, "/"), api.ErrRange)
			refuses(t, w, watching(15, s, "no path"), api.ErrRange)
			refuses(t, w, crashing(s, 0), api.ErrRange)
			refuses(t, w, rising(s), api.ErrRange)
		}
	}
}

// P14.2: numbers that a deed does not ask for are nothing to it.
func TestOtherNumbers(t *testing.T) {
	for _, n := range []int{-1, 3, 16, math.MinInt, math.MaxInt} {
		w := New()
		does(t, w, api.Deed{Kind: api.DeedElect, Client: n, Server: n, Lost: n, Slow: n, Keep: n, Watch: true}, api.Reply{})
		does(t, w, api.Deed{Kind: api.DeedWrite, Server: n, Keep: n, Watch: true, Request: open()}, api.Reply{Zxid: at(1, 1)})
		root := api.Reply{Zxid: at(1, 1), Path: "/"}
		does(t, w, api.Deed{Kind: api.DeedRead, Lost: n, Slow: n, Keep: n, Request: api.Request{Op: n, Session: n, Path: "/", Data: "d", Version: n, Flags: n}}, root)
		does(t, w, api.Deed{Kind: api.DeedCrash, Client: n, Lost: n, Slow: n, Watch: true}, api.Reply{})
		does(t, w, api.Deed{Kind: api.DeedUp, Client: n, Lost: n, Slow: n, Keep: n, Watch: true}, api.Reply{})
		if w.Leader() != 2 || len(w.Server(0).Watches)+len(w.Server(1).Watches) != 0 {
			t.Errorf("%d: %s", n, short(seen(w)))
		}
	}
}

// P14.2: as many deeds as there may be, whatever their replies were; then ErrFull, ahead of all else.
func TestFull(t *testing.T) {
	deeds := []api.Deed{{}, {Kind: api.DeedCrash, Server: 3}, writing(16, open()), rising(0), reading(0, 0, "/"), reading(0, 0, "/none"), crashing(0, -1), electing(), writing(0, closed())}
	for _, d := range deeds {
		w := New()
		for i := range 299 {
			if r := w.Do(d); r.Code == api.ErrFull {
				t.Fatalf("%+v: full at %d", d, i)
			}
		}
		does(t, w, crashing(1, 0), api.Reply{})
		for _, more := range append(deeds, rising(1)) {
			refuses(t, w, more, api.ErrFull)
		}
	}
	w := led(t)
	for range 148 {
		if r := w.Do(lossy(set("/a", "y"), 3, 0)); r.Code != api.ErrLost {
			t.Fatalf("%v", r)
		}
		if r := w.Do(electing()); r.Code != api.OK {
			t.Fatalf("%v", r)
		}
	}
	refuses(t, w, electing(), api.ErrFull)
}

// P14.7: the replies of a new world, one by one, refused ones too.
func TestRun(t *testing.T) {
	l := []api.Deed{
		writing(0, open()), electing(), {}, writing(0, open()), writing(0, made("/a", "x")), watching(1, 0, "/a"), crashing(1, 0),
		lossy(set("/a", "y"), 1, 0), rising(1), rising(1), electing(), reading(1, 1, "/a"), reading(2, 2, "/b"), reading(16, 0, "/"),
	}
	got, e := Run(l)
	w := New()
	if e != api.OK || len(got) != len(l) {
		t.Fatalf("%v, %d", got, e)
	}
	var codes []api.Errno
	for i, d := range l {
		does(t, w, d, got[i])
		codes = append(codes, got[i].Code)
	}
	want := []api.Errno{api.ErrDown, api.OK, api.ErrKind, api.OK, api.OK, api.OK, api.OK, api.ErrLost, api.OK, api.ErrTwice, api.OK, api.OK, api.ErrNone, api.ErrRange}
	if !slices.Equal(codes, want) {
		t.Errorf("%v; asked for %v", codes, want)
	}
	again, e := Run(l)
	if e != api.OK || !slices.EqualFunc(got, again, sameReply) {
		t.Errorf("%v, then %v", got, again)
	}
}

// P14.7: no deeds, as many as may be, and more.
func TestRunMany(t *testing.T) {
	for _, n := range []int{0, 1, 299, 300} {
		for _, d := range []api.Deed{{}, electing(), reading(0, 0, "/")} {
			got, e := Run(slices.Repeat([]api.Deed{d}, n))
			full := slices.ContainsFunc(got, func(r api.Reply) bool { return r.Code == api.ErrFull })
			if e != api.OK || len(got) != n || full {
				t.Errorf("%d: %d replies, %d", n, len(got), e)
			}
		}
	}
	for _, n := range []int{301, 302, 1000} {
		if got, e := Run(slices.Repeat([]api.Deed{electing()}, n)); e != api.ErrFull || len(got) != 0 {
			t.Errorf("%d: %d replies, %d", n, len(got), e)
		}
	}
	if got, e := Run(nil); e != api.OK || len(got) != 0 {
		t.Errorf("%v, %d", got, e)
	}
}

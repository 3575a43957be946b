package store

import (
	"fmt"
	"math/rand"
	"slices"
	"testing"
	"unsafe"

	"aviary/api"
	"aviary/disk"
	"aviary/tree"
	"aviary/wal"
	"aviary/wire"
)

// hand is a server by another hand: its disk is three texts, and its log is read off the records.
type hand struct {
	up          bool
	epochs      string // the file; empty: there is none
	safe, tail  string // of the log's file
	epoch, done int
	log         []api.Txn
	tree        api.Tree
	watches     []api.Watch
}

func (h *hand) server(id int) api.Server {
	var d api.Disk
	if h.epochs != "" {
		d.Files = append(d.Files, api.File{Name: "epoch", Safe: h.epochs})
	}
	d.Files = append(d.Files, api.File{Name: "log", Safe: h.safe, Tail: h.tail})
	return api.Server{Up: h.up, Disk: d, Peer: api.Peer{Id: id, Epoch: h.epoch, Log: h.log, Done: h.done}, Tree: h.tree, Watches: h.watches}
}

func (h *hand) crash(keep int) {
	*h = hand{epochs: h.epochs, safe: h.safe + h.tail[:min(keep, len(h.tail))], tree: tree.New()}
}

func (h *hand) boot() {
	h.up = true
	h.log, _ = wal.Scan(h.safe)
	h.safe = records(h.log...)
	fmt.Sscanf(h.epochs, "%d.0", &h.epoch)
}

func (h *hand) take(x api.Txn, safe bool) api.Errno {
	if len(h.log) > 0 && x.Zxid <= h.log[len(h.log)-1].Zxid || x.Zxid <= 0 && len(h.log) == 0 {
		return api.ErrOrder
	}
	if e := wire.Good(x); e != api.OK {
		return e
	}
	h.tail += recordOf(x)
	if safe {
		h.safe, h.tail = h.safe+h.tail, ""
	}
	h.log = append(slices.Clone(h.log), x)
	return api.OK
}

// told is the notes of events; watches that were set off are taken out.
func (h *hand) told(events []api.Event) []api.Note {
	var notes []api.Note
	for _, e := range events {
		var left []api.Watch
		for _, w := range h.watches {
			hit := e.Kind != api.EventKids
			if w.Kind == api.WatchKids {
				hit = e.Kind == api.EventKids || e.Kind == api.EventGone
			}
			if hit && w.Path == e.Path {
				notes = append(notes, api.Note{Session: w.Session, Event: e})
			} else {
				left = append(left, w)
			}
		}
		h.watches = left
	}
	return notes
}

func (h *hand) commit(n int) ([]api.Note, api.Errno) {
	if n < h.done || n > len(h.log) {
		return nil, api.ErrRange
	}
	was := *h
	var notes []api.Note
	for ; h.done < n; h.done++ {
		x := h.log[h.done]
		after, events, e := tree.Apply(h.tree, x)
		if e != api.OK {
			*h = was
			return nil, e
		}
		h.tree = after
		notes = append(notes, h.told(events)...)
		if x.Op == api.OpClose {
			h.watches = slices.DeleteFunc(slices.Clone(h.watches), func(w api.Watch) bool { return w.Session == x.Session })
		}
	}
	return notes, api.OK
}

func (h *hand) follow(l []api.Txn, epoch int) api.Errno {
	k := 0
	for k < len(h.log) && k < len(l) && h.log[k].Zxid == l[k].Zxid {
		k++
	}
	switch {
	case k < h.done:
		return api.ErrOrder
	case epoch < 0 || epoch > most:
		return api.ErrRange
	}
	was := *h
	h.log = h.log[:k]
	h.safe, h.tail = records(h.log...), ""
	h.epoch, h.epochs = epoch, fmt.Sprintf("%d.0", epoch)
	for _, x := range l[k:] {
		if e := h.take(x, true); e != api.OK {
			*h = was
			return e
		}
	}
	return api.OK
}

func pick[T any](r *rand.Rand, l ...T) T { return l[r.Intn(len(l))] }

// chance is a transaction with a number, of few paths and sessions, so that many are taken.
func chance(r *rand.Rand, z int) api.Txn {
	session := pick(r, 1, 1, 1, 2)
	p := pick(r, "/a", "/b", "/a/c", "/a/d")
	switch r.Intn(10) {
	case 0, 1:
		return open(z, session)
	case 2:
		return closed(z, session)
	case 3:
		return gone(z, session, p)
	case 4:
		return set(z, session, pick(r, 1, 1, 2), p)
	case 5:
		return owned(z, session, p)
	case 6:
		return pick(r, api.Txn{Zxid: z, Op: 6, Session: 1}, open(z, 0), made(z, 1, "a"))
	}
	return made(z, session, p)
}

// fit is a transaction that the tree behind all of a log takes, if one is found soon.
func fit(r *rand.Rand, l []api.Txn, z int) api.Txn {
	a := tree.New()
	for _, x := range l {
		if after, _, e := tree.Apply(a, x); e == api.OK {
			a = after
		}
	}
	for range 20 {
		x := chance(r, z)
		if _, _, e := tree.Apply(a, x); e == api.OK {
			return x
		}
	}
	return open(z, 1)
}

// leaders is a log that a leader might have: some of a log, and others behind it.
func leaders(r *rand.Rand, l []api.Txn, done int) []api.Txn {
	k := len(l)
	if r.Intn(2) == 0 {
		k = min(len(l), pick(r, done, done, done+1, r.Intn(len(l)+1)))
	}
	l = slices.Clone(l[:k])
	for range r.Intn(4) {
		step := pick(r, 1, 1, 2, 1<<31)
		if r.Intn(20) == 0 {
			step = -1
		}
		l = append(l, fit(r, l, wal.Last(l)+step))
	}
	return l
}

// P10.2 to P10.6: long ways of calls of one server, against the chapter by another hand.
func TestWays(t *testing.T) {
	codes, deeds := map[api.Errno]int{}, map[string]int{}
	for seed := range 80 {
		r := rand.New(rand.NewSource(int64(seed)))
		id := r.Intn(3)
		h := &hand{tree: tree.New()}
		h.boot()
		a, e := Boot(id, api.Disk{})
		servers(t, "Boot", h.server(id))(a, e)
		for i := range 150 {
			what, b, code, want := "", api.Server{}, api.OK, api.OK
			var notes, told []api.Note
			switch r.Intn(12) {
			case 0:
				keep := r.Intn(120)
				h.crash(keep)
				what = "Crash"
				b, code = Crash(a, keep)
			case 1, 2:
				l, epoch := leaders(r, h.log, h.done), pick(r, 1, h.epoch+1, h.epoch, most, most+1, -1)
				what, want = "Follow", h.follow(l, epoch)
				b, code = Follow(a, l, epoch)
			case 3, 4, 5:
				n := h.done + r.Intn(4) - r.Intn(2)
				what = "Commit"
				notes, want = h.commit(n)
				b, told, code = Commit(a, n)
			case 6, 7:
				w := api.Watch{Session: 1 + r.Intn(3), Kind: 1 + r.Intn(2), Path: pick(r, "/", "/a", "/b", "/a/c")}
				h.watches = append(slices.Clone(h.watches), w)
				what, b = "a watch", a
				b.Watches = append(slices.Clone(a.Watches), w)
			default:
				z := wal.Last(h.log) + pick(r, 1, 1, 1, 2, 1<<31, 0)
				x, safe := fit(r, h.log, z), r.Intn(2) == 0
				if r.Intn(6) == 0 {
					x = chance(r, z)
				}
				what, want = "Take", h.take(x, safe)
				b, code = Take(a, x, safe)
			}
			codes[code]++
			deeds[what]++
			if code != want || !slices.Equal(told, notes) || code == api.OK && !same(b, h.server(id)) {
				t.Fatalf("way %d, step %d: %s: %v, %v, %d; asked for %v, %v, %d", seed, i, what, short(b), told, code, short(h.server(id)), notes, want)
			}
			if code != api.OK {
				refused(t, what, want)(b, code)
				continue
			}
			a = b
			if what == "Crash" {
				h.boot()
				a, code = Boot(id, a.Disk)
				servers(t, "Boot", h.server(id))(a, code)
			}
		}
	}
	for _, e := range []api.Errno{api.OK, api.ErrOrder, api.ErrRange, api.ErrForm, api.ErrKind, api.ErrTwice, api.ErrSession} {
		if codes[e] < 20 {
			t.Errorf("%d came up %d times", e, codes[e])
		}
	}
	for _, what := range []string{"Crash", "Follow", "Commit", "Take", "a watch"} {
		if deeds[what] < 500 {
			t.Errorf("%s came up %d times", what, deeds[what])
		}
	}
}

// P10.3, P10.2: what was taken safe is there behind a crash, however little of the rest stays.
func TestSafe(t *testing.T) {
	l := seven()
	for n := range len(l) + 1 {
		rest := records(l[n:]...)
		for keep := range len(rest) + 2 {
			a, _ := Boot(0, api.Disk{})
			for i, x := range l {
				a, _ = Take(a, x, i == n-1)
			}
			down, e := Crash(a, keep)
			up, f := Boot(0, down.Disk)
			whole := n
			for whole < len(l) && len(records(l[n:whole+1]...)) <= keep {
				whole++
			}
			if e != api.OK || f != api.OK || !slices.Equal(up.Peer.Log, l[:whole]) {
				t.Fatalf("%d safe, %d bytes kept: %v, %d, %d; asked for %d", n, keep, up.Peer.Log, e, f, whole)
			}
		}
	}
}

// roomy is a list with room behind it, which is filled.
func roomy[T any](l []T, spare ...T) []T { return append(slices.Clone(l), spare...)[:len(l)] }

// full is a server all of whose lists have room behind them, and its transactions are half done.
func full() api.Server {
	a := stage(seven(), data(8, "/c"), data(8, "/a"), kids(6, "/"))
	a, _, _ = Commit(a, 4)
	a.Watches = append(a.Watches, data(6, "/c"), kids(8, "/zz"))
	a.Disk.Files = roomy(a.Disk.Files, api.File{Name: "zz", Safe: "spare"}, api.File{Name: "room"})
	a.Peer.Log = roomy(a.Peer.Log, open(99, 99), open(98, 98))
	a.Tree.Nodes = roomy(a.Tree.Nodes, api.Node{Path: "/spare"}, api.Node{Path: "/room"})
	a.Tree.Sessions = roomy(a.Tree.Sessions, 77, 78)
	a.Watches = roomy(a.Watches, data(66, "/spare"), data(67, "/room"))
	return a
}

// whole is a server with the room behind its lists as a part of them.
func whole(a api.Server) api.Server {
	a.Disk.Files = a.Disk.Files[:cap(a.Disk.Files)]
	a.Peer.Log = a.Peer.Log[:cap(a.Peer.Log)]
	a.Tree.Nodes = a.Tree.Nodes[:cap(a.Tree.Nodes)]
	a.Tree.Sessions = a.Tree.Sessions[:cap(a.Tree.Sessions)]
	a.Watches = a.Watches[:cap(a.Watches)]
	return a
}

// held is a server as it stands now, whatever comes upon it.
func held(a api.Server) api.Server {
	a.Disk.Files = slices.Clone(a.Disk.Files)
	a.Peer.Log = slices.Clone(a.Peer.Log)
	a.Tree.Nodes = slices.Clone(a.Tree.Nodes)
	a.Tree.Sessions = slices.Clone(a.Tree.Sessions)
	a.Watches = slices.Clone(a.Watches)
	return a
}

// spoil puts other things into all that a server has, and into the room behind it.
func spoil(a api.Server) {
	a = whole(a)
	for i := range a.Disk.Files {
		a.Disk.Files[i] = api.File{Name: "spoilt"}
	}
	for i := range a.Peer.Log {
		a.Peer.Log[i] = api.Txn{Zxid: -7}
	}
	for i := range a.Tree.Nodes {
		a.Tree.Nodes[i] = api.Node{Path: "spoilt"}
	}
	for i := range a.Tree.Sessions {
		a.Tree.Sessions[i] = -7
	}
	for i := range a.Watches {
		a.Watches[i] = api.Watch{Path: "spoilt"}
	}
}

func shares(a, b string) bool {
	return a != "" && b != "" && unsafe.StringData(a) == unsafe.StringData(b)
}

// texts is all texts that a server has, and transactions behind them.
func texts(a api.Server, l ...api.Txn) []string {
	var s []string
	for _, f := range a.Disk.Files {
		s = append(s, f.Name, f.Safe, f.Tail)
	}
	for _, x := range slices.Concat(a.Peer.Log, l) {
		s = append(s, x.Path, x.Data)
	}
	for _, n := range a.Tree.Nodes {
		s = append(s, n.Path, n.Data)
	}
	for _, w := range a.Watches {
		s = append(s, w.Path)
	}
	return s
}

// apart holds a call of a server to what nobody sees: what is handed in stays, and what comes out is new.
func apart(t *testing.T, what string, a api.Server, l []api.Txn, call func() (api.Server, []api.Note, api.Errno)) {
	t.Helper()
	before, lead := held(whole(a)), slices.Clone(l[:cap(l)])
	got, notes, e := call()
	again, twice, f := call()
	if e != f || !same(got, again) || !slices.Equal(notes, twice) {
		t.Errorf("%s: %d, then %d", what, e, f)
	}
	old, out := held(again), texts(got)
	for _, n := range notes {
		out = append(out, n.Event.Path)
	}
	for _, s := range out {
		for _, o := range append(texts(a, l...), texts(again)...) {
			if s != "/" && shares(s, o) {
				t.Errorf("%s shares the text %.40q", what, s)
			}
		}
	}
	spoil(got)
	for i := range notes {
		notes[i] = api.Note{Session: -7}
	}
	if !same(whole(a), before) || !slices.Equal(l[:cap(l)], lead) {
		t.Errorf("%s changed what was handed in: %s", what, short(whole(a)))
	}
	if !same(again, old) {
		t.Errorf("%s changed what had come out: %s", what, short(again))
	}
}

// P10.2 to P10.6: servers and lists that are handed in are not changed, their room neither; what comes out shares nothing with them.
func TestApart(t *testing.T) {
	a := full()
	x := made(top, 8, "/new")
	for _, y := range []api.Txn{x, open(1, 1), {Zxid: top}} {
		for _, safe := range []bool{true, false} {
			apart(t, "Take", a, []api.Txn{y}, func() (api.Server, []api.Note, api.Errno) {
				b, e := Take(a, y, safe)
				return b, nil, e
			})
		}
	}
	for n := 3; n <= 8; n++ {
		apart(t, "Commit", a, nil, func() (api.Server, []api.Note, api.Errno) { return Commit(a, n) })
	}
	for k := 3; k <= 7; k++ {
		for _, more := range [][]api.Txn{nil, {x}, {made(top-1, 8, "/newer"), x}, {x, {}}} {
			l := roomy(append(seven()[:k:k], more...), open(97, 97))
			apart(t, "Follow", a, l, func() (api.Server, []api.Note, api.Errno) {
				b, e := Follow(a, l, 9)
				return b, nil, e
			})
		}
	}
	for _, keep := range []int{0, 2, -1} {
		apart(t, "Crash", a, nil, func() (api.Server, []api.Note, api.Errno) {
			b, e := Crash(a, keep)
			return b, nil, e
		})
	}
	for id := range 4 {
		apart(t, "Boot", a, nil, func() (api.Server, []api.Note, api.Errno) {
			b, e := Boot(id, a.Disk)
			return b, nil, e
		})
	}
	for _, epoch := range []int{0, 9, -1} {
		apart(t, "Remember", a, nil, func() (api.Server, []api.Note, api.Errno) {
			d, e := Remember(a.Disk, epoch)
			return api.Server{Disk: d}, nil, e
		})
	}
}

// P10.4, P10.6: two servers that grow out of one do not grow into each other.
func TestForks(t *testing.T) {
	base, _ := Boot(0, api.Disk{})
	for _, x := range seven()[:5] {
		base, _ = Take(base, x, true)
		one, _ := Take(base, open(top-1, 1), true)
		two, _ := Take(base, open(top, 2), false)
		three, _ := Follow(base, append(slices.Clone(base.Peer.Log), open(top-2, 3)), 2)
		for want, b := range map[api.Txn]api.Server{open(top-1, 1): one, open(top, 2): two, open(top-2, 3): three} {
			s, _ := disk.Read(b.Disk, "log")
			l, _ := wal.Scan(s)
			if got := b.Peer.Log[len(b.Peer.Log)-1]; got != want || !slices.Equal(l, b.Peer.Log) {
				t.Errorf("%v; asked for %v", got, want)
			}
		}
	}
}

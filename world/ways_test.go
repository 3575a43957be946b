package world

import (
	"fmt"
	"math/rand"
	"slices"
	"strings"
	"testing"

	"aviary/api"
	"aviary/prep"
	"aviary/recipe"
	"aviary/tree"
	"aviary/wire"
)

// box is a server by another hand: its log is one list, the first so many of which are safe, and its tree is made anew out of those that are done.
type box struct {
	up, follows       bool
	epoch, safe, done int
	named             bool // is there a file of the epoch?
	log               []api.Txn
	scrap             string // bytes of a torn record behind the log, while it is down
	watches           []api.Watch
}

// hand is a world by another hand.
type hand struct {
	deeds  int
	boxes  [3]*box
	leader *box
	ends   [16]map[string]api.Entry
	seen   [16]int
	done   []api.Txn
}

func handmade() *hand {
	h := &hand{}
	for i := range h.boxes {
		h.boxes[i] = &box{up: true}
	}
	for i := range h.ends {
		h.ends[i] = map[string]api.Entry{}
	}
	return h
}

func bytesOf(l []api.Txn) string {
	s := ""
	for _, x := range l {
		record, _ := wire.Encode(x)
		s += record
	}
	return s
}

func (b *box) tree() api.Tree {
	a := tree.New()
	for _, x := range b.log[:b.done] {
		a, _, _ = tree.Apply(a, x)
	}
	return a
}

func (b *box) server(id int) api.Server {
	var d api.Disk
	if b.named {
		d.Files = append(d.Files, api.File{Name: "epoch", Safe: fmt.Sprintf("%d.0", b.epoch)})
	}
	d.Files = append(d.Files, api.File{Name: "log", Safe: bytesOf(b.log[:b.safe]) + b.scrap, Tail: bytesOf(b.log[b.safe:])})
	if !b.up {
		return api.Server{Disk: d, Peer: api.Peer{Id: id}, Tree: tree.New()}
	}
	return api.Server{Up: true, Disk: d, Peer: api.Peer{Id: id, Epoch: b.epoch, Log: b.log, Done: b.done}, Tree: b.tree(), Watches: b.watches}
}

func (h *hand) view() view {
	v := view{leader: slices.Index(h.boxes[:], h.leader), done: h.done}
	for i, b := range h.boxes {
		v.servers[i] = b.server(i)
	}
	for i, end := range h.ends {
		v.clients[i] = api.Client{Session: i + 1, Seen: h.seen[i]}
		for _, e := range end {
			v.clients[i].Cache = append(v.clients[i].Cache, e)
		}
		slices.SortFunc(v.clients[i].Cache, func(a, b api.Entry) int { return strings.Compare(a.Path, b.Path) })
	}
	return v
}

func (h *hand) apart() {
	h.leader = nil
	for _, b := range h.boxes {
		b.follows = false
	}
}

// work does all of a box's log, and tells of it.
func (h *hand) work(b *box) []api.Note {
	var notes []api.Note
	for b.done < len(b.log) {
		x := b.log[b.done]
		_, events, _ := tree.Apply(b.tree(), x)
		b.done++
		for _, e := range events {
			var left []api.Watch
			for _, w := range b.watches {
				if w.Path != e.Path || e.Kind == api.EventKids {
					left = append(left, w)
					continue
				}
				notes = append(notes, api.Note{Session: w.Session, Event: e})
				delete(h.ends[w.Session-1], e.Path)
			}
			b.watches = left
		}
		if x.Op == api.OpClose {
			b.watches = slices.DeleteFunc(slices.Clone(b.watches), func(w api.Watch) bool { return w.Session == x.Session })
		}
	}
	return notes
}

func (h *hand) do(d api.Deed) api.Reply {
	h.deeds++
	badClient, badServer := d.Client < 0 || d.Client > 15, d.Server < 0 || d.Server > 2
	switch {
	case h.deeds > 300:
		return api.Reply{Code: api.ErrFull}
	case d.Kind < 1 || d.Kind > 5:
		return api.Reply{Code: api.ErrKind}
	case d.Kind <= 2 && badClient || d.Kind >= 2 && d.Kind <= 4 && badServer:
		return api.Reply{Code: api.ErrRange}
	}
	switch d.Kind {
	case api.DeedWrite:
		return h.write(d)
	case api.DeedRead:
		return h.read(d)
	case api.DeedCrash:
		return h.crash(d)
	case api.DeedUp:
		return h.rise(d)
	}
	return h.elect()
}

func (h *hand) crash(d api.Deed) api.Reply {
	b := h.boxes[d.Server]
	switch {
	case !b.up:
		return api.Reply{Code: api.ErrDown}
	case d.Keep < 0:
		return api.Reply{Code: api.ErrRange}
	case b == h.leader:
		h.apart()
	}
	left := bytesOf(b.log[b.safe:])
	left = left[:min(d.Keep, len(left))]
	for len(bytesOf(b.log[b.safe:min(b.safe+1, len(b.log))])) <= len(left) && b.safe < len(b.log) {
		left = left[len(bytesOf(b.log[b.safe:b.safe+1])):]
		b.safe++
	}
	h.boxes[d.Server] = &box{epoch: b.epoch, named: b.named, log: b.log[:b.safe], safe: b.safe, scrap: left}
	return api.Reply{}
}

func (h *hand) rise(d api.Deed) api.Reply {
	b := h.boxes[d.Server]
	if b.up {
		return api.Reply{Code: api.ErrTwice}
	}
	b.up, b.scrap = true, ""
	return api.Reply{}
}

func last(b *box) int {
	if len(b.log) == 0 {
		return 0
	}
	return b.log[len(b.log)-1].Zxid
}

func (h *hand) elect() api.Reply {
	var best *box
	up, epoch := 0, 0
	for _, b := range h.boxes {
		if b.up {
			up++
			epoch = max(epoch, b.epoch, last(b)>>31)
			if best == nil || last(b) >= last(best) {
				best = b
			}
		}
	}
	if up < 2 {
		return api.Reply{Code: api.ErrDown}
	}
	h.apart()
	h.leader = best
	r := api.Reply{Zxid: last(best)}
	log := slices.Clone(best.log)
	for _, b := range h.boxes {
		if b.up {
			b.log, b.safe, b.epoch, b.named, b.follows = slices.Clone(log), len(log), epoch+1, true, true
			r.Notes = append(r.Notes, h.work(b)...)
		}
	}
	return r
}

func (h *hand) write(d api.Deed) api.Reply {
	if h.leader == nil {
		return api.Reply{Code: api.ErrDown}
	}
	z := max(last(h.leader), h.leader.epoch<<31) + 1
	request := d.Request
	request.Session = d.Client + 1
	x, e := prep.Prepare(h.leader.tree(), z, request)
	if e != api.OK {
		return api.Reply{Code: e}
	}
	var safe []*box
	for i, b := range h.boxes {
		if b.follows && b != h.leader && uint(d.Lost)>>i%2 == 1 {
			b.follows = false
		}
		if !b.follows {
			continue
		}
		b.log = append(slices.Clone(b.log), x)
		if b == h.leader || uint(d.Slow)>>i%2 == 0 {
			b.safe = len(b.log)
			safe = append(safe, b)
		}
	}
	if len(safe) < 2 {
		h.apart()
		return api.Reply{Code: api.ErrLost, Zxid: z}
	}
	r := api.Reply{Zxid: z, Path: x.Path}
	for _, b := range safe {
		r.Notes = append(r.Notes, h.work(b)...)
	}
	for _, n := range h.leader.tree().Nodes {
		if n.Path == x.Path {
			r.Stat = n.Stat
		}
	}
	h.seen[d.Client] = z
	h.done = append(slices.Clone(h.done), x)
	return r
}

func (h *hand) read(d api.Deed) api.Reply {
	b, p := h.boxes[d.Server], d.Request.Path
	if !b.up {
		return api.Reply{Code: api.ErrDown}
	}
	a := b.tree()
	if a.Zxid < h.seen[d.Client] {
		return api.Reply{Code: api.ErrStale}
	}
	r := api.Reply{Code: api.ErrNone, Zxid: a.Zxid}
	for _, n := range a.Nodes {
		if n.Path == p {
			r.Code, r.Path, r.Data, r.Stat = api.OK, n.Path, n.Data, n.Stat
		}
	}
	if d.Watch {
		if wire.Good(api.Txn{Op: api.OpSet, Session: 1, Path: p}) != api.OK {
			return api.Reply{Code: api.ErrForm}
		}
		w := api.Watch{Session: d.Client + 1, Kind: api.WatchData, Path: p}
		if !slices.Contains(b.watches, w) {
			b.watches = append(slices.Clone(b.watches), w)
		}
		h.ends[d.Client][p] = api.Entry{Path: p, Data: r.Data, There: r.Code == api.OK}
	}
	h.seen[d.Client] = a.Zxid
	return r
}

func pick[T any](r *rand.Rand, l ...T) T { return l[r.Intn(len(l))] }

// asked is a request of few paths, so that many are done.
func asked(r *rand.Rand) api.Request {
	return api.Request{
		Op:      pick(r, 1, 1, 1, 1, 2, 3, 3, 3, 3, 3, 4, 4, 5, 5, 5, 5, 5, 5, pick(r, 0, 6, 5)),
		Session: r.Intn(4),
		Path:    pick(r, "/", "/a", "/a", "/a", "/b", "/a/c", "/a/c", "/a/q", pick(r, "/a", "a")),
		Data:    strings.Repeat(pick(r, "x", "y"), pick(r, 0, 1, 1, 7, 256, pick(r, 1, 257))),
		Version: pick(r, -1, -1, -1, -1, -1, -1, 0, 1),
		Flags:   pick(r, 0, 0, 0, 0, 1, 2, 3, 4),
	}
}

// chance is a deed; one in twenty-five has a number out of its bounds.
func chance(r *rand.Rand) api.Deed {
	d := api.Deed{
		Kind:    pick(r, 1, 1, 1, 1, 1, 1, 2, 2, 2, 2, 3, 4, 4, 5, 5),
		Client:  pick(r, 0, 0, 1, 1, 2, 15),
		Server:  r.Intn(3),
		Request: asked(r),
		Keep:    pick(r, 0, 1, 5, 20, 30, 40, 70, 300, 500),
		Watch:   r.Intn(2) == 0,
	}
	if r.Intn(6) == 0 {
		d.Lost = pick(r, 1, 2, 3, 4, 6, 7, 8, -2)
	}
	if r.Intn(2) == 0 {
		d.Slow = pick(r, 1, 1, 1, 2, 2, 2, 3, 4, -8, -7)
	}
	switch r.Intn(100) {
	case 0:
		d.Kind = pick(r, -1, 0, 6)
	case 1:
		d.Client = pick(r, -1, 16)
	case 2:
		d.Server = pick(r, -1, 3)
	case 3:
		d.Keep = -1
	}
	return d
}

// next is a deed of chance; where nobody leads it is often one towards a leader.
func next(r *rand.Rand, w *World) api.Deed {
	if w.Leader() == -1 && r.Intn(2) == 0 {
		return pick(r, electing(), electing(), rising(0), rising(1), rising(2))
	}
	return chance(r)
}

// P14.1 to P14.7: long ways of deeds, against a world by another hand; replies and all that a world tells of itself.
func TestWays(t *testing.T) {
	codes := map[[2]int]int{}
	notes, leaders, scraps := 0, map[int]int{}, 0
	for seed := range 120 {
		r := rand.New(rand.NewSource(int64(seed)))
		w, h := New(), handmade()
		var deeds []api.Deed
		var replies []api.Reply
		for i := range 310 {
			d := next(r, w)
			got, want := w.Do(d), h.do(d)
			if !sameReply(got, want) {
				t.Fatalf("way %d, step %d: %+v: %+v; asked for %+v", seed, i, d, got, want)
			}
			if a, b := seen(w), h.view(); !sameView(a, b) {
				t.Fatalf("way %d, step %d: %+v: %s; asked for %s", seed, i, d, short(a), short(b))
			}
			codes[[2]int{d.Kind, int(got.Code)}]++
			notes += len(got.Notes)
			leaders[w.Leader()]++
			if d.Kind == api.DeedCrash && got.Code == api.OK && h.boxes[d.Server].scrap != "" {
				scraps++
			}
			deeds, replies = append(deeds, d), append(replies, got)
		}
		all, e := Run(deeds[:300])
		if e != api.OK || !slices.EqualFunc(all, replies[:300], sameReply) {
			t.Fatalf("way %d: Run: %d", seed, e)
		}
	}
	for _, c := range []struct {
		kind int
		code api.Errno
	}{
		{1, api.OK}, {1, api.ErrLost}, {1, api.ErrDown}, {1, api.ErrNone}, {1, api.ErrTwice}, {1, api.ErrSession}, {1, api.ErrVersion}, {1, api.ErrForm}, {1, api.ErrKind}, {1, api.ErrRange},
		{2, api.OK}, {2, api.ErrNone}, {2, api.ErrStale}, {2, api.ErrDown}, {2, api.ErrForm}, {3, api.OK}, {3, api.ErrDown}, {4, api.OK}, {4, api.ErrTwice}, {5, api.OK}, {5, api.ErrDown},
	} {
		if n := codes[[2]int{c.kind, int(c.code)}]; n < 50 {
			t.Errorf("kind %d, %d came up %d times", c.kind, c.code, n)
		}
	}
	if notes < 500 || leaders[0] < 200 || leaders[1] < 200 || leaders[2] < 200 || leaders[-1] < 200 || scraps < 15 {
		t.Errorf("%d notes, %v led, %d torn logs", notes, leaders, scraps)
	}
}

// kept is whether all of a list stand in another one, in order.
func kept(l, in []api.Txn) bool {
	for _, x := range in {
		if len(l) > 0 && l[0] == x {
			l = l[1:]
		}
	}
	return len(l) == 0
}

// What was told as done stays done: whoever leads has it; all trees that are at one number are one; no client sees less than it saw.
func TestAgreed(t *testing.T) {
	for seed := range 150 {
		r := rand.New(rand.NewSource(int64(1000 + seed)))
		w := New()
		trees := map[int]api.Tree{}
		var saw [16]int
		for range 300 {
			w.Do(next(r, w))
			if leader := w.Leader(); leader >= 0 && !kept(w.Acknowledged(), w.Server(leader).Peer.Log) {
				t.Fatalf("way %d: %v; the leader has %v", seed, w.Acknowledged(), w.Server(leader).Peer.Log)
			}
			for i := range 3 {
				a := w.Server(i).Tree
				b, there := trees[a.Zxid]
				if there && (!slices.Equal(a.Nodes, b.Nodes) || !slices.Equal(a.Sessions, b.Sessions)) {
					t.Fatalf("way %d: %v and %v", seed, a, b)
				}
				trees[a.Zxid] = a
			}
			for i, z := range saw {
				saw[i] = w.Client(i).Seen
				if saw[i] < z {
					t.Fatalf("way %d: client %d saw %d, then %d", seed, i, z, saw[i])
				}
			}
		}
	}
}

// Example 5: three clients stand in line for a lock; the first one's session is closed: the second one holds it, and its token is greater.
func TestLock(t *testing.T) {
	w := after(t, electing(), writing(0, open()), writing(1, open()), writing(2, open()), writing(0, made("/lock", "")))
	var steps []string
	for c := range 3 {
		r := w.Do(writing(c, recipe.Ask(0, "/lock", "q-")))
		if r.Code != api.OK || r.Stat.Owner != c+1 {
			t.Fatalf("%v", r)
		}
		steps = append(steps, strings.TrimPrefix(r.Path, "/lock/"))
	}
	a := w.Server(1).Tree
	line, _ := recipe.Line(a, "/lock", "q-")
	session, token, e := recipe.Holder(a, "/lock", "q-")
	if !slices.Equal(line, steps) || session != 1 || e != api.OK {
		t.Errorf("%v, %d, %d", line, session, e)
	}
	ahead, _ := recipe.Before(a, "/lock", "q-", steps[1])
	if r := w.Do(watching(1, 1, "/lock/"+ahead)); r.Code != api.OK {
		t.Errorf("%v", r)
	}
	r := w.Do(writing(0, closed()))
	if !slices.Equal(r.Notes, []api.Note{{Session: 2, Event: api.Event{Kind: api.EventGone, Path: "/lock/" + steps[0]}}}) {
		t.Errorf("%v", r)
	}
	second, newer, _ := recipe.Holder(w.Server(1).Tree, "/lock", "q-")
	if second != 2 || newer <= token {
		t.Errorf("%d holds, %d behind %d", second, newer, token)
	}
}

// spoil puts other things into all that a world told of itself, and into the room behind it.
func spoil(v view) {
	for i := range v.servers {
		s := &v.servers[i]
		fill(s.Disk.Files, api.File{Name: "spoilt"})
		fill(s.Peer.Log, api.Txn{Zxid: -7})
		fill(s.Tree.Nodes, api.Node{Path: "spoilt"})
		fill(s.Tree.Sessions, -7)
		fill(s.Watches, api.Watch{Path: "spoilt"})
	}
	for i := range v.clients {
		fill(v.clients[i].Cache, api.Entry{Path: "spoilt"})
	}
	fill(v.done, api.Txn{Zxid: -7})
}

func fill[T any](l []T, with T) {
	l = l[:cap(l)]
	for i := range l {
		l[i] = with
	}
}

// What holds everywhere: whatever is done with what came out changes nothing that a world tells later, nor what came out before.
func TestApart(t *testing.T) {
	for seed := range 20 {
		r := rand.New(rand.NewSource(int64(2000 + seed)))
		w, clean := New(), New()
		for i := range 300 {
			d := next(r, w)
			got, want := w.Do(d), clean.Do(d)
			if !sameReply(got, want) {
				t.Fatalf("way %d, step %d: %+v: %+v; asked for %+v", seed, i, d, got, want)
			}
			fill(got.Notes, api.Note{Session: -7})
			first, second := seen(w), seen(w)
			if !sameView(first, seen(clean)) {
				t.Fatalf("way %d, step %d: %s", seed, i, short(first))
			}
			spoil(first)
			if !sameView(second, seen(clean)) || !sameView(seen(w), seen(clean)) {
				t.Fatalf("way %d, step %d: what came out is shared", seed, i)
			}
		}
	}
}

// What holds everywhere: lists of one answer, and of different servers and clients, share no memory with each other.
func TestListsApart(t *testing.T) {
	w := led(t, watching(0, 0, "/a"), watching(1, 0, "/a"))
	l := []api.Deed{electing(), writing(0, open()), watching(1, 0, "/"), writing(0, set("/", "x"))}
	replies, _ := Run(l)
	again, _ := Run(l)
	fill(replies[3].Notes, api.Note{Session: -7})
	fill(replies[:3], api.Reply{Code: -7})
	if third, _ := Run(l); !slices.EqualFunc(again, third, sameReply) {
		t.Errorf("%v, then %v", again, third)
	}
	one := w.Server(0)
	before := []api.Server{w.Server(0), w.Server(1), w.Server(2)}
	fill(one.Peer.Log, api.Txn{})
	fill(one.Tree.Nodes, api.Node{})
	for i, s := range before {
		if !sameServer(s, w.Server(i)) {
			t.Errorf("server %d: %s", i, short(w.Server(i)))
		}
	}
}

// What holds everywhere: deeds that are handed in are not changed, their room neither, nor kept.
func TestDeedsStay(t *testing.T) {
	l := make([]api.Deed, 0, 16)
	l = append(l, electing(), writing(0, open()), writing(0, made("/a", "x")), watching(1, 0, "/a"), api.Deed{}, crashing(0, 1))
	room := l[:cap(l)]
	room[len(l)] = api.Deed{Kind: 77}
	before := slices.Clone(room)
	Run(l)
	if !slices.Equal(l[:cap(l)], before) {
		t.Errorf("%v; handed in %v", l[:cap(l)], before)
	}
	w := New()
	for i := range l {
		w.Do(l[i])
	}
	want := seen(w)
	fill(l, api.Deed{Kind: -7})
	if !sameView(seen(w), want) {
		t.Error("what was handed in is kept")
	}
}

// What holds everywhere: worlds do not reach each other, nor does a copy of one the one that it was copied from.
func TestWorldsApart(t *testing.T) {
	w := led(t)
	for range 5 {
		w.Do(writing(0, set("/a", "y")))
		other := *w
		before := seen(w)
		for i := range 3 {
			other.Do(watching(1, i, "/a"))
		}
		other.Do(writing(1, set("/a", "other")))
		other.Do(writing(1, gone("/a")))
		other.Do(crashing(0, 0))
		other.Do(electing())
		if !sameView(seen(w), before) {
			t.Fatalf("%s; asked for %s", short(seen(w)), short(before))
		}
		theirs := seen(&other)
		w.Do(writing(0, set("/a", "mine")))
		w.Do(lossy(set("/a", "mine"), 3, 0))
		w.Do(electing())
		if !sameView(seen(&other), theirs) {
			t.Fatalf("%s; asked for %s", short(seen(&other)), short(theirs))
		}
	}
}

package world

import (
	"math"
	"slices"
	"strings"
	"testing"

	"aviary/api"
	"aviary/tree"
	"aviary/wire"
)

// P14.3: a server that goes down has its disk alone; the others stand as they were.
func TestCrash(t *testing.T) {
	for i := range 3 {
		w := led(t, watching(0, i, "/a"))
		before := seen(w)
		does(t, w, crashing(i, 0), api.Reply{})
		want := before
		want.servers[i] = api.Server{Disk: before.servers[i].Disk, Peer: api.Peer{Id: i}, Tree: tree.New()}
		if i == 2 {
			want.leader = -1
		}
		if got := seen(w); !sameView(got, want) {
			t.Errorf("server %d: %s; asked for %s", i, short(got), short(want))
		}
		refuses(t, w, crashing(i, 0), api.ErrDown)
		refuses(t, w, crashing(i, -1), api.ErrDown)
		refuses(t, w, reading(9, i, "/"), api.ErrDown)
	}
}

// P14.3: how much stays cannot be below nothing; a server that is up stays up then.
func TestCrashErrors(t *testing.T) {
	for _, w := range []*World{New(), led(t)} {
		for i := range 3 {
			for _, keep := range []int{-1, -2, math.MinInt} {
				refuses(t, w, crashing(i, keep), api.ErrRange)
			}
		}
	}
}

// P14.3: if one that follows goes down the leader goes on, with the other one; if both are down nothing is safe enough.
func TestCrashFollower(t *testing.T) {
	for i := range 2 {
		w := led(t, crashing(i, 0), writing(0, set("/a", "y")))
		if w.Leader() != 2 {
			t.Errorf("%d leads", w.Leader())
		}
		done := [3]int{4, 4, 4}
		done[i] = 0
		logs(t, w, done, done)
		does(t, w, rising(i), api.Reply{})
		does(t, w, writing(0, set("/a", "z")), api.Reply{Zxid: at(1, 5), Path: "/a", Stat: api.Stat{Czxid: at(1, 3), Mzxid: at(1, 5), Pzxid: at(1, 3), Version: 2}})
		// It follows nobody: it has what its disk had.
		have, done := [3]int{5, 5, 5}, [3]int{5, 5, 5}
		have[i], done[i] = 3, 0
		logs(t, w, have, done)
		does(t, w, crashing(1-i, 0), api.Reply{})
		does(t, w, writing(0, set("/a", "z")), api.Reply{Code: api.ErrLost, Zxid: at(1, 6)})
		if w.Leader() != -1 {
			t.Errorf("%d leads", w.Leader())
		}
	}
}

// P14.3: if the leader goes down nobody leads, nor when it comes up.
func TestCrashLeader(t *testing.T) {
	w := led(t, crashing(2, 0))
	refuses(t, w, writing(0, set("/a", "y")), api.ErrDown)
	does(t, w, rising(2), api.Reply{})
	if w.Leader() != -1 {
		t.Errorf("%d leads", w.Leader())
	}
	refuses(t, w, writing(0, set("/a", "y")), api.ErrDown)
	logs(t, w, [3]int{3, 3, 3}, [3]int{3, 3, 0})
	unled(t, w)
}

// P14.3: one that comes up follows nobody, though it followed once, and others chose while it was down.
func TestUpFollowsNobody(t *testing.T) {
	w := led(t, lossy(set("/a", "y"), 1, 0), crashing(2, 0), crashing(1, 0), rising(2))
	does(t, w, electing(), api.Reply{Zxid: at(1, 4)})
	does(t, w, rising(1), api.Reply{})
	does(t, w, writing(0, set("/a", "z")), api.Reply{Zxid: at(2, 1), Path: "/a", Stat: api.Stat{Czxid: at(1, 3), Mzxid: at(2, 1), Pzxid: at(1, 3), Version: 2}})
	logs(t, w, [3]int{5, 4, 5}, [3]int{5, 0, 5})
}

// P14.3: a server that comes up reads its disk: its log and its epoch; nothing of it is done, and it has no watches.
func TestUp(t *testing.T) {
	for i := range 3 {
		w := led(t, watching(0, i, "/a"), crashing(i, 0))
		before := seen(w)
		does(t, w, rising(i), api.Reply{})
		want := before
		want.servers[i] = api.Server{Up: true, Disk: before.servers[i].Disk, Peer: api.Peer{Id: i, Epoch: 1, Log: w.Acknowledged()}, Tree: tree.New()}
		if got := seen(w); !sameView(got, want) {
			t.Errorf("server %d: %s; asked for %s", i, short(got), short(want))
		}
		refuses(t, w, rising(i), api.ErrTwice)
		refuses(t, w, rising((i+1)%3), api.ErrTwice)
	}
}

// P14.3, example 4: of what was not safe the first bytes stay; a part of a transaction at the log's end is cut off.
func TestTorn(t *testing.T) {
	x := api.Txn{Zxid: at(1, 4), Op: api.OpSet, Session: 1, Path: "/a", Data: "y", Version: 1}
	record, _ := wire.Encode(x)
	y := api.Txn{Zxid: at(1, 5), Op: api.OpClose, Session: 2}
	second, _ := wire.Encode(y)
	for keep := range len(record) + len(second) + 3 {
		w := led(t, lossy(set("/a", "y"), 0, 2), api.Deed{Kind: api.DeedWrite, Client: 1, Request: closed(), Slow: 2})
		logs(t, w, [3]int{5, 5, 5}, [3]int{5, 3, 5})
		if f := w.Server(1).Disk.Files[1]; f.Tail != record+second {
			t.Fatalf("%q", f)
		}
		safe := w.Server(1).Disk.Files[1].Safe
		does(t, w, crashing(1, keep), api.Reply{})
		if f := w.Server(1).Disk.Files[1]; f.Safe != safe+(record + second)[:min(keep, len(record+second))] || f.Tail != "" {
			t.Errorf("%d bytes: %q", keep, f)
		}
		want, log := 3, safe
		if keep >= len(record) {
			want, log = 4, safe+record
		}
		if keep >= len(record)+len(second) {
			want, log = 5, safe+record+second
		}
		does(t, w, rising(1), api.Reply{})
		if s := w.Server(1); len(s.Peer.Log) != want || s.Disk.Files[1] != (api.File{Name: "log", Safe: log}) {
			t.Errorf("%d bytes: %s; asked for %d", keep, short(s), want)
		}
		does(t, w, electing(), api.Reply{Zxid: y.Zxid})
		logs(t, w, [3]int{5, 5, 5}, [3]int{5, 5, 5})
	}
	w := led(t, lossy(set("/a", "y"), 0, 2))
	does(t, w, crashing(1, math.MaxInt), api.Reply{})
	does(t, w, rising(1), api.Reply{})
	if l := w.Server(1).Peer.Log; len(l) != 4 || l[3] != x {
		t.Errorf("%v", l)
	}
}

// P14.4, example 1: in a new world server 2 is chosen, in epoch 1; all follow; the first number is 1.1.
func TestElectNew(t *testing.T) {
	w := New()
	does(t, w, electing(), api.Reply{})
	files := []api.File{{Name: "epoch", Safe: "1.0"}, {Name: "log"}}
	for i := range 3 {
		want := api.Server{Up: true, Disk: api.Disk{Files: files}, Peer: api.Peer{Id: i, Epoch: 1}, Tree: tree.New()}
		if got := w.Server(i); !sameServer(got, want) {
			t.Errorf("server %d: %v", i, got)
		}
	}
	if w.Leader() != 2 {
		t.Errorf("%d leads", w.Leader())
	}
	does(t, w, writing(0, open()), api.Reply{Zxid: at(1, 1)})
	logs(t, w, [3]int{1, 1, 1}, [3]int{1, 1, 1})
}

// P14.4: of those that are up, the one at a place of the list, not of that number, leads; those that are down are not asked, and follow nobody.
func TestElectPlaces(t *testing.T) {
	for down, leader := range []int{2, 2, 1} {
		w := after(t, crashing(down, 0))
		does(t, w, electing(), api.Reply{})
		if w.Leader() != leader {
			t.Errorf("without %d: %d leads", down, w.Leader())
		}
		does(t, w, writing(0, open()), api.Reply{Zxid: at(1, 1)})
		does(t, w, rising(down), api.Reply{})
		does(t, w, writing(1, open()), api.Reply{Zxid: at(1, 2)})
		have := [3]int{2, 2, 2}
		have[down] = 0
		logs(t, w, have, have)
		if w.Server(down).Peer.Epoch != 0 {
			t.Errorf("%s", short(w.Server(down)))
		}
		// It learns all that it missed.
		does(t, w, electing(), api.Reply{Zxid: at(1, 2)})
		logs(t, w, [3]int{2, 2, 2}, [3]int{2, 2, 2})
		for i := range 3 {
			if w.Server(i).Peer.Epoch != 2 {
				t.Errorf("%s", short(w.Server(i)))
			}
		}
	}
}

// P14.4: too few that are up cannot choose; the leader that there is stays.
func TestElectDown(t *testing.T) {
	for up := range 3 {
		w := New()
		for i := range 3 {
			if i != up {
				w.Do(crashing(i, 0))
			}
		}
		refuses(t, w, electing(), api.ErrDown)
		w.Do(crashing(up, 0))
		refuses(t, w, electing(), api.ErrDown)
	}
	w := led(t, crashing(0, 0), crashing(1, 0))
	refuses(t, w, electing(), api.ErrDown)
	if w.Leader() != 2 {
		t.Errorf("%d leads", w.Leader())
	}
	// It leads on, and has nobody who follows it: the write is lost.
	does(t, w, writing(0, set("/a", "y")), api.Reply{Code: api.ErrLost, Zxid: at(1, 4)})
}

// P14.4: the one with the newest number leads, whatever its place; the others have its log then, in the next epoch.
func TestElectNewest(t *testing.T) {
	for newest := range 3 {
		w := led(t)
		// Servers 0 and 1 are the newest that are up once server 2 is down, which got the write, too.
		switch newest {
		case 0:
			w.Do(lossy(set("/a", "y"), 2, 0))
			w.Do(crashing(2, 0))
		case 1:
			w.Do(lossy(set("/a", "y"), 1, 0))
			w.Do(crashing(2, 0))
		case 2:
			w.Do(lossy(set("/a", "y"), 3, 0))
		}
		does(t, w, electing(), api.Reply{Zxid: at(1, 4)})
		if w.Leader() != newest {
			t.Errorf("%d leads; asked for %d", w.Leader(), newest)
		}
		have := [3]int{4, 4, 4}
		if newest != 2 {
			have[2] = 0
		}
		logs(t, w, have, have)
		for i := range 3 {
			if s := w.Server(i); s.Up && (s.Peer.Epoch != 2 || s.Tree.Zxid != at(1, 4) || s.Disk.Files[0].Safe != "2.0") {
				t.Errorf("server %d: %s", i, short(s))
			}
		}
		does(t, w, writing(0, set("/a", "z")), api.Reply{Zxid: at(2, 1), Path: "/a", Stat: api.Stat{Czxid: at(1, 3), Mzxid: at(2, 1), Pzxid: at(1, 3), Version: 2}})
	}
}

// P14.4: an epoch is never chosen twice, though a server slept through it, and though nothing was written in it.
func TestElectEpochs(t *testing.T) {
	w := New()
	for epoch := 1; epoch <= 9; epoch++ {
		down := epoch % 3
		w.Do(crashing(down, 0))
		does(t, w, electing(), api.Reply{})
		w.Do(rising(down))
		for i := range 3 {
			if got := w.Server(i).Peer.Epoch; i != down && got != epoch || i == down && got >= epoch {
				t.Errorf("server %d: %d in %d", i, got, epoch)
			}
		}
	}
	does(t, w, electing(), api.Reply{})
	does(t, w, writing(0, open()), api.Reply{Zxid: at(10, 1)})
}

// P14.4: a leader that is there is chosen again, or another one in its place; the epoch goes on.
func TestElectAgain(t *testing.T) {
	w := led(t)
	for epoch := 2; epoch < 6; epoch++ {
		does(t, w, electing(), api.Reply{Zxid: at(1, 3)})
		if w.Leader() != 2 || w.Server(0).Peer.Epoch != epoch {
			t.Errorf("%d leads in %d", w.Leader(), w.Server(0).Peer.Epoch)
		}
	}
	w = after(t, crashing(2, 0), electing(), rising(2))
	if w.Leader() != 1 {
		t.Errorf("%d leads", w.Leader())
	}
	does(t, w, electing(), api.Reply{})
	if w.Leader() != 2 {
		t.Errorf("%d leads", w.Leader())
	}
}

// P14.4: a transaction that only a log has that was not chosen is gone; a number above it takes its place.
func TestElectForgets(t *testing.T) {
	w := led(t)
	does(t, w, lossy(set("/a", "lost"), 3, 0), api.Reply{Code: api.ErrLost, Zxid: at(1, 4)})
	does(t, w, crashing(2, 0), api.Reply{})
	does(t, w, electing(), api.Reply{Zxid: at(1, 3)})
	does(t, w, writing(0, gone("/a")), api.Reply{Zxid: at(2, 1), Path: "/a"})
	does(t, w, rising(2), api.Reply{})
	if l := w.Server(2).Peer.Log; len(l) != 4 || l[3].Data != "lost" {
		t.Errorf("%v", l)
	}
	does(t, w, electing(), api.Reply{Zxid: at(2, 1)})
	if l := w.Server(2).Peer.Log; w.Leader() != 1 || !slices.Equal(l, w.Server(1).Peer.Log) || !slices.Equal(l, w.Acknowledged()) {
		t.Errorf("%d leads, %v", w.Leader(), l)
	}
}

// P14.4: all that are chosen have the log safe, and do all of it: those who watch at any of them are told, server by server.
func TestElectNotes(t *testing.T) {
	w := led(t, watching(1, 2, "/a"), watching(0, 1, "/a"), watching(1, 0, "/a"), watching(5, 0, "/a"), watching(6, 0, "/"))
	does(t, w, lossy(set("/a", "y"), 1, 2), api.Reply{Code: api.ErrLost, Zxid: at(1, 4)})
	if len(w.Client(1).Cache) != 1 {
		t.Errorf("%v", w.Client(1))
	}
	event := api.Event{Kind: api.EventData, Path: "/a"}
	notes := []api.Note{{Session: 2, Event: event}, {Session: 6, Event: event}, {Session: 1, Event: event}, {Session: 2, Event: event}}
	does(t, w, electing(), api.Reply{Zxid: at(1, 4), Notes: notes})
	for i := range 16 {
		want := 0
		if i == 6 {
			want = 1
		}
		if got := len(w.Client(i).Cache); got != want {
			t.Errorf("client %d: %v", i, w.Client(i))
		}
	}
	for i, want := range []int{1, 0, 0} {
		s := w.Server(i)
		if len(s.Watches) != want || s.Disk.Files[1].Tail != "" || s.Peer.Done != 4 {
			t.Errorf("server %d: %s", i, short(s))
		}
	}
	// Nobody who is told sees more by it.
	if w.Client(0).Seen != at(1, 3) || w.Client(5).Seen != at(1, 3) {
		t.Errorf("%v, %v", w.Client(0), w.Client(5))
	}
}

// P14.5: nobody leads, ahead of all that is wrong with the request.
func TestWriteDown(t *testing.T) {
	w := New()
	for _, r := range []api.Request{open(), {}, made("no path", ""), set("/", "x"), {Op: api.OpCreate, Path: "/a", Flags: 9}} {
		refuses(t, w, writing(0, r), api.ErrDown)
		refuses(t, w, writing(15, r), api.ErrDown)
	}
}

// P14.5: what each kind of request is answered.
func TestWrite(t *testing.T) {
	w := after(t, electing())
	does(t, w, writing(4, open()), api.Reply{Zxid: at(1, 1)})
	does(t, w, writing(4, made("/a", "x")), api.Reply{Zxid: at(1, 2), Path: "/a", Stat: api.Stat{Czxid: at(1, 2), Mzxid: at(1, 2), Pzxid: at(1, 2)}})
	e := made("/a/e", "mine")
	e.Flags = api.FlagEphemeral | api.FlagSequential
	does(t, w, writing(4, e), api.Reply{Zxid: at(1, 3), Path: "/a/e0000000000", Stat: api.Stat{Czxid: at(1, 3), Mzxid: at(1, 3), Pzxid: at(1, 3), Owner: 5}})
	does(t, w, writing(4, set("/a", "y")), api.Reply{Zxid: at(1, 4), Path: "/a", Stat: api.Stat{Czxid: at(1, 2), Mzxid: at(1, 4), Pzxid: at(1, 3), Version: 1, Cversion: 1, Kids: 1}})
	does(t, w, writing(4, set("/", "r")), api.Reply{Zxid: at(1, 5), Path: "/", Stat: api.Stat{Mzxid: at(1, 5), Pzxid: at(1, 2), Version: 1, Cversion: 1, Kids: 1}})
	does(t, w, writing(4, gone("/a/e0000000000")), api.Reply{Zxid: at(1, 6), Path: "/a/e0000000000"})
	does(t, w, writing(4, closed()), api.Reply{Zxid: at(1, 7)})
	for i := range 3 {
		s := w.Server(i)
		if s.Tree.Zxid != at(1, 7) || len(s.Tree.Nodes) != 2 || s.Tree.Nodes[1].Data != "y" || len(s.Tree.Sessions) != 0 || s.Disk.Files[1].Tail != "" {
			t.Errorf("server %d: %s", i, short(s))
		}
	}
	for i := range 16 {
		want := api.Client{Session: i + 1}
		if i == 4 {
			want.Seen = at(1, 7)
		}
		if got := w.Client(i); !sameClient(got, want) {
			t.Errorf("client %d: %v", i, got)
		}
	}
}

// P14.5: a client speaks for its own session, whatever the request names.
func TestWriteSession(t *testing.T) {
	for _, session := range []int{0, 1, 9, -1, math.MaxInt} {
		w := after(t, electing())
		r := open()
		r.Session = session
		does(t, w, writing(15, r), api.Reply{Zxid: at(1, 1)})
		if l := w.Server(0).Tree.Sessions; !slices.Equal(l, []int{16}) {
			t.Errorf("%v", l)
		}
		r = made("/e", "")
		r.Session, r.Flags = session, api.FlagEphemeral
		does(t, w, writing(15, r), api.Reply{Zxid: at(1, 2), Path: "/e", Stat: api.Stat{Czxid: at(1, 2), Mzxid: at(1, 2), Pzxid: at(1, 2), Owner: 16}})
		r.Session = 16
		refuses(t, w, writing(0, r), api.ErrSession)
	}
}

// P14.5: Prepare's errors, which no server hears of; the next number is not used up.
func TestWriteErrors(t *testing.T) {
	w := led(t)
	for _, c := range []struct {
		r api.Request
		e api.Errno
	}{
		{api.Request{}, api.ErrKind},
		{api.Request{Op: 6}, api.ErrKind},
		{api.Request{Op: -1}, api.ErrKind},
		{open(), api.ErrTwice},
		{made("/a", ""), api.ErrTwice},
		{made("/b/c", ""), api.ErrNone},
		{set("/b", ""), api.ErrNone},
		{gone("/b"), api.ErrNone},
		{gone("/"), api.ErrForm},
		{made("/", ""), api.ErrForm},
		{made("", ""), api.ErrForm},
		{made("/A", ""), api.ErrForm},
		{set("a", ""), api.ErrForm},
		{made("/b", strings.Repeat("d", 257)), api.ErrLong},
		{api.Request{Op: api.OpSet, Path: "/a", Version: 7}, api.ErrVersion},
		{api.Request{Op: api.OpDelete, Path: "/a", Version: 1}, api.ErrVersion},
		{api.Request{Op: api.OpCreate, Path: "/b", Flags: 4}, api.ErrRange},
		{api.Request{Op: api.OpCreate, Path: "/b", Flags: -1}, api.ErrRange},
	} {
		refuses(t, w, writing(0, c.r), c.e)
		d := writing(0, c.r)
		d.Lost, d.Slow = 7, 7
		refuses(t, w, d, c.e)
	}
	refuses(t, w, writing(2, set("/a", "y")), api.ErrSession)
	refuses(t, w, writing(2, closed()), api.ErrSession)
	does(t, w, writing(2, open()), api.Reply{Zxid: at(1, 4)})
}

// bringing is a world in which a certain server leads, and all follow; their logs have three transactions, all done, as those of led.
func bringing(t *testing.T, leader int) *World {
	t.Helper()
	late := writing(1, open())
	late.Lost = 2
	w := New()
	// Servers 0 and 1 lead where they alone have the newest number: the write was lost, and is done after all.
	for _, d := range [][]api.Deed{
		{electing(), writing(0, open()), late, crashing(2, 0), electing(), lossy(made("/a", "x"), 2, 0), rising(2), electing()},
		{crashing(2, 0), electing(), writing(0, open()), writing(1, open()), lossy(made("/a", "x"), 1, 0), rising(2), electing()},
		{electing(), writing(0, open()), writing(1, open()), writing(0, made("/a", "x"))},
	}[leader] {
		w.Do(d)
	}
	if w.Leader() != leader {
		t.Fatalf("%d leads; asked for %d", w.Leader(), leader)
	}
	logs(t, w, [3]int{3, 3, 3}, [3]int{3, 3, 3})
	return w
}

// follows is who follows: who gets a write that all may get, and does all that it has.
func follows(t *testing.T, w *World) [3]bool {
	t.Helper()
	r := w.Do(writing(0, set("/a", "z")))
	if r.Code != api.OK {
		t.Fatalf("%v", r)
	}
	var l [3]bool
	for i := range 3 {
		s := w.Server(i)
		l[i] = s.Tree.Zxid == r.Zxid
		if l[i] && (s.Peer.Done != len(s.Peer.Log) || s.Disk.Files[1].Tail != "") {
			t.Errorf("server %d: %s", i, short(s))
		}
	}
	return l
}

// spread holds a world of bringing to a write with the lost and slow bits of its servers: who has it, who has it safe, who does it, who follows on.
func spread(t *testing.T, leader, lost, slow int, misses, waits [3]bool) {
	t.Helper()
	w := bringing(t, leader)
	told := len(w.Acknowledged())
	r := w.Do(lossy(set("/a", "y"), lost, slow))
	x := w.Server(leader).Peer.Log[3]
	record, _ := wire.Encode(x)
	misses[leader], waits[leader] = false, false
	safe := 0
	for i := range 3 {
		if !misses[i] && !waits[i] {
			safe++
		}
	}
	code, leads := api.ErrLost, -1
	if safe >= 2 {
		code, leads = api.OK, leader
		told++
	}
	if r.Code != code || r.Zxid != x.Zxid || w.Leader() != leads || len(w.Acknowledged()) != told {
		t.Errorf("leader %d, %b, %b: %v, %d leads", leader, lost, slow, r, w.Leader())
	}
	for i := range 3 {
		s := w.Server(i)
		log, done, tail := 4, 3, ""
		switch {
		case misses[i]:
			log = 3
		case waits[i]:
			tail = record
		case safe >= 2:
			done = 4
		}
		if len(s.Peer.Log) != log || s.Peer.Done != done || s.Disk.Files[1].Tail != tail {
			t.Errorf("leader %d, %b, %b: server %d: %s", leader, lost, slow, i, short(s))
		}
	}
	if safe < 2 {
		refuses(t, w, writing(0, set("/a", "z")), api.ErrDown)
		unled(t, w)
		return
	}
	for i, l := range follows(t, w) {
		if l == misses[i] {
			t.Errorf("leader %d, %b, %b: server %d follows: %t", leader, lost, slow, i, l)
		}
	}
}

// P14.5: all bits of Lost and Slow, with each server as the leader, whose own bits do not count.
func TestWriteBits(t *testing.T) {
	for leader := range 3 {
		for lost := range 8 {
			for slow := range 8 {
				var misses, waits [3]bool
				for i, b := range []int{1, 2, 4} {
					misses[i], waits[i] = lost&b != 0, slow&b != 0
				}
				spread(t, leader, lost, slow, misses, waits)
			}
		}
	}
}

// P14.5: bits above those of the servers do not count, and a number below 0 is rounded down.
func TestWriteFarBits(t *testing.T) {
	none := [3]bool{}
	for n, bits := range map[int][3]bool{
		8: none, 16: none, 1 << 32: none, 1 << 62: none, math.MinInt: none, -8: none, -16: none,
		9: {true}, 1<<40 + 2: {1: true}, math.MaxInt: {true, true, true}, math.MinInt + 1: {true},
		-1: {true, true, true}, -2: {1: true, 2: true}, -3: {0: true, 2: true}, -4: {2: true}, -5: {true, true}, -6: {1: true}, -7: {true}, -9: {true, true, true},
	} {
		for leader := range 3 {
			spread(t, leader, n, 0, bits, none)
			spread(t, leader, 0, n, none, bits)
			spread(t, leader, n, n, bits, bits)
		}
	}
}

// P14.5: one that follows no more gets nothing, whatever comes; it is not asked for its bits any more.
func TestWriteAfterLost(t *testing.T) {
	w := led(t, lossy(set("/a", "y"), 1, 0))
	for _, bits := range []int{0, 1, 5} {
		d := lossy(set("/a", "z"), bits, bits)
		if r := w.Do(d); r.Code != api.OK {
			t.Errorf("%v", r)
		}
	}
	logs(t, w, [3]int{3, 7, 7}, [3]int{3, 7, 7})
	does(t, w, lossy(set("/a", "z"), 0, 2), api.Reply{Code: api.ErrLost, Zxid: at(1, 8)})
	logs(t, w, [3]int{3, 8, 8}, [3]int{3, 7, 7})
}

// P14.5: one that was slow has all safe with the next one, and does them in one go: the notes of both are told.
func TestWriteAfterSlow(t *testing.T) {
	w := led(t, watching(5, 1, "/a"), watching(5, 1, "/"), watching(6, 1, "/a"))
	does(t, w, lossy(set("/a", "y"), 0, 2), api.Reply{Zxid: at(1, 4), Path: "/a", Stat: api.Stat{Czxid: at(1, 3), Mzxid: at(1, 4), Pzxid: at(1, 3), Version: 1}})
	logs(t, w, [3]int{4, 4, 4}, [3]int{4, 3, 4})
	if len(w.Client(5).Cache) != 2 || w.Server(1).Tree.Zxid != at(1, 3) {
		t.Errorf("%v", w.Client(5))
	}
	a, root := api.Event{Kind: api.EventData, Path: "/a"}, api.Event{Kind: api.EventData, Path: "/"}
	notes := []api.Note{{Session: 6, Event: a}, {Session: 7, Event: a}, {Session: 6, Event: root}}
	does(t, w, writing(0, set("/", "r")), api.Reply{Zxid: at(1, 5), Path: "/", Stat: api.Stat{Mzxid: at(1, 5), Pzxid: at(1, 3), Version: 1, Cversion: 1, Kids: 1}, Notes: notes})
	logs(t, w, [3]int{5, 5, 5}, [3]int{5, 5, 5})
	if len(w.Client(5).Cache)+len(w.Client(6).Cache)+len(w.Server(1).Watches) != 0 {
		t.Errorf("%v, %v, %v", w.Client(5), w.Client(6), w.Server(1).Watches)
	}
}

// P14.5: who watches at a server that does a write is told of it, server by server; at others nobody is.
func TestWriteNotes(t *testing.T) {
	w := led(t, watching(1, 2, "/a"), watching(0, 1, "/a"), watching(7, 0, "/a"), watching(8, 1, "/a"), watching(8, 0, "/"))
	a := api.Event{Kind: api.EventGone, Path: "/a"}
	notes := []api.Note{{Session: 1, Event: a}, {Session: 9, Event: a}, {Session: 2, Event: a}}
	does(t, w, lossy(gone("/a"), 1, 0), api.Reply{Zxid: at(1, 4), Path: "/a", Notes: notes})
	for i, want := range map[int]int{0: 0, 1: 0, 7: 1, 8: 1, 2: 0} {
		if got := w.Client(i).Cache; len(got) != want {
			t.Errorf("client %d: %v", i, got)
		}
	}
	if l := w.Client(8).Cache; l[0].Path != "/" {
		t.Errorf("%v", l)
	}
	if len(w.Server(0).Watches) != 2 || len(w.Server(1).Watches)+len(w.Server(2).Watches) != 0 {
		t.Errorf("%v, %v", w.Server(0).Watches, w.Server(1).Watches)
	}
	// Once told is told: the next one sets nothing off.
	does(t, w, writing(0, made("/a", "new")), api.Reply{Zxid: at(1, 5), Path: "/a", Stat: api.Stat{Czxid: at(1, 5), Mzxid: at(1, 5), Pzxid: at(1, 5)}})
}

// P14.5: with a session its nodes go, and its watches; who watches these nodes is told of each.
func TestWriteClose(t *testing.T) {
	mine := func(p string) api.Deed {
		return writing(1, api.Request{Op: api.OpCreate, Path: p, Flags: api.FlagEphemeral})
	}
	w := led(t, mine("/f"), mine("/e"), watching(0, 1, "/f"), watching(0, 1, "/e"), watching(1, 1, "/"), watching(1, 1, "/e"))
	notes := []api.Note{
		{Session: 1, Event: api.Event{Kind: api.EventGone, Path: "/e"}},
		{Session: 2, Event: api.Event{Kind: api.EventGone, Path: "/e"}},
		{Session: 1, Event: api.Event{Kind: api.EventGone, Path: "/f"}},
	}
	does(t, w, writing(1, closed()), api.Reply{Zxid: at(1, 6), Notes: notes})
	if l := w.Server(1).Watches; len(l) != 0 {
		t.Errorf("%v", l)
	}
	if n := len(w.Server(0).Tree.Nodes); n != 2 || len(w.Client(0).Cache) != 0 || len(w.Client(1).Cache) != 1 {
		t.Errorf("%d nodes, %v, %v", n, w.Client(0), w.Client(1))
	}
}

// P14.5: the one who writes has seen it; the others have not. A write that is lost nobody has seen.
func TestWriteSeen(t *testing.T) {
	w := led(t)
	seen := func(want ...int) {
		t.Helper()
		for i := range 16 {
			z := 0
			if i < len(want) {
				z = want[i]
			}
			if got := w.Client(i).Seen; got != z {
				t.Errorf("client %d: %d", i, got)
			}
		}
	}
	seen(at(1, 3), at(1, 2))
	does(t, w, lossy(closed(), 3, 0), api.Reply{Code: api.ErrLost, Zxid: at(1, 4)})
	seen(at(1, 3), at(1, 2))
	w.Do(electing())
	seen(at(1, 3), at(1, 2))
	w.Do(writing(1, gone("/a")))
	seen(at(1, 3), at(2, 1))
	w.Do(writing(2, open()))
	seen(at(1, 3), at(2, 1), at(2, 2))
}

// P14.5, example 3: a write that only the leader gets is lost, and nobody leads; if it is chosen again the write is done, if not it is gone.
func TestLost(t *testing.T) {
	for _, again := range []bool{true, false} {
		w := led(t)
		does(t, w, lossy(set("/a", "y"), 3, 0), api.Reply{Code: api.ErrLost, Zxid: at(1, 4)})
		refuses(t, w, writing(0, set("/a", "y")), api.ErrDown)
		want, z := "y", at(1, 4)
		if !again {
			does(t, w, crashing(2, 0), api.Reply{})
			want, z = "x", at(1, 3)
		}
		does(t, w, electing(), api.Reply{Zxid: z})
		if r := w.Do(reading(3, 1, "/a")); r.Data != want || r.Zxid != z {
			t.Errorf("%v: asked for %q", r, want)
		}
	}
}

// P14.6, example 2: a client reads what it wrote at another server: all that is known of the node.
func TestRead(t *testing.T) {
	w := led(t, writing(0, made("/a/b", "bee")), writing(1, set("/a", "y")))
	stat := api.Stat{Czxid: at(1, 3), Mzxid: at(1, 5), Pzxid: at(1, 4), Version: 1, Cversion: 1, Kids: 1}
	for i := range 3 {
		for _, c := range []int{0, 1, 15} {
			does(t, w, reading(c, i, "/a"), api.Reply{Zxid: at(1, 5), Path: "/a", Data: "y", Stat: stat})
			if got := w.Client(c); !sameClient(got, api.Client{Session: c + 1, Seen: at(1, 5)}) {
				t.Errorf("client %d: %v", c, got)
			}
		}
		does(t, w, reading(0, i, "/a/b"), api.Reply{Zxid: at(1, 5), Path: "/a/b", Data: "bee", Stat: api.Stat{Czxid: at(1, 4), Mzxid: at(1, 4), Pzxid: at(1, 4)}})
		does(t, w, reading(0, i, "/"), api.Reply{Zxid: at(1, 5), Path: "/", Stat: api.Stat{Pzxid: at(1, 3), Cversion: 1, Kids: 1}})
		if len(w.Server(i).Watches) != 0 {
			t.Errorf("%v", w.Server(i).Watches)
		}
	}
}

// P14.6: that there is no such node is an answer, with the number of the tree, and the client has seen it; what is no path is no node.
func TestReadNone(t *testing.T) {
	for _, p := range []string{"/b", "/a/b", "", "a", "/A", "//", "/a/", strings.Repeat("/n", 101)} {
		w := led(t)
		before := seen(w)
		does(t, w, reading(4, 1, p), api.Reply{Code: api.ErrNone, Zxid: at(1, 3)})
		before.clients[4].Seen = at(1, 3)
		if got := seen(w); !sameView(got, before) {
			t.Errorf("%q: %s; asked for %s", p, short(got), short(before))
		}
	}
}

// P14.6: a server that is not up, ahead of what the client has seen, and of the path.
func TestReadDown(t *testing.T) {
	w := led(t, crashing(1, 0))
	for _, c := range []int{0, 9} {
		refuses(t, w, reading(c, 1, "/a"), api.ErrDown)
		refuses(t, w, watching(c, 1, "no path"), api.ErrDown)
	}
	does(t, w, rising(1), api.Reply{})
	refuses(t, w, reading(0, 1, "/a"), api.ErrStale)
	does(t, w, reading(9, 1, "/a"), api.Reply{Code: api.ErrNone})
	does(t, w, reading(9, 1, "/"), api.Reply{Path: "/"})
}

// P14.6: a server that knows less than the client has seen, ahead of the path; one who has seen no more may read there.
func TestReadStale(t *testing.T) {
	w := led(t, lossy(set("/a", "y"), 1, 0))
	old := api.Reply{Zxid: at(1, 3), Path: "/a", Data: "x", Stat: api.Stat{Czxid: at(1, 3), Mzxid: at(1, 3), Pzxid: at(1, 3)}}
	for _, p := range []string{"/a", "/", "/none", "no path"} {
		refuses(t, w, reading(0, 0, p), api.ErrStale)
		refuses(t, w, watching(0, 0, p), api.ErrStale)
	}
	does(t, w, reading(1, 0, "/a"), old)
	does(t, w, reading(9, 0, "/a"), old)
	if r := w.Do(reading(9, 1, "/a")); r.Data != "y" {
		t.Errorf("%v", r)
	}
	refuses(t, w, reading(9, 0, "/a"), api.ErrStale)
	does(t, w, reading(1, 0, "/a"), old)
	// What is lost is seen by nobody, so that the servers are all new enough.
	w = led(t)
	w.Do(lossy(set("/a", "y"), 3, 0))
	for i := range 3 {
		does(t, w, reading(0, i, "/a"), old)
	}
}

// P14.6: with Watch the server has a watch, behind the others, each once, and the client an entry, by path.
func TestReadWatch(t *testing.T) {
	w := led(t, watching(1, 0, "/a"), watching(0, 0, "/a"), watching(1, 0, "/"), watching(1, 0, "/a"))
	does(t, w, watching(1, 0, "/b"), api.Reply{Code: api.ErrNone, Zxid: at(1, 3)})
	data := func(c int, p string) api.Watch { return api.Watch{Session: c + 1, Kind: api.WatchData, Path: p} }
	if got := w.Server(0).Watches; !slices.Equal(got, []api.Watch{data(1, "/a"), data(0, "/a"), data(1, "/"), data(1, "/b")}) {
		t.Errorf("%v", got)
	}
	if len(w.Server(1).Watches)+len(w.Server(2).Watches) != 0 {
		t.Errorf("%v, %v", w.Server(1).Watches, w.Server(2).Watches)
	}
	entries := []api.Entry{{Path: "/", There: true}, {Path: "/a", Data: "x", There: true}, {Path: "/b"}}
	if got := w.Client(1); !sameClient(got, api.Client{Session: 2, Seen: at(1, 3), Cache: entries}) {
		t.Errorf("%v", got)
	}
	if got := w.Client(0).Cache; !slices.Equal(got, entries[1:2]) {
		t.Errorf("%v", got)
	}
	// A read without Watch leaves the cache as it is, though it tells otherwise.
	w.Do(lossy(set("/a", "y"), 1, 0))
	if r := w.Do(reading(1, 2, "/a")); r.Data != "y" || !slices.Equal(w.Client(1).Cache, entries) {
		t.Errorf("%v, %v", r, w.Client(1))
	}
	// With Watch the entry is a new one.
	w.Do(watching(1, 2, "/a"))
	entries[1].Data = "y"
	if got := w.Client(1).Cache; !slices.Equal(got, entries) {
		t.Errorf("%v", got)
	}
}

// P14.6: a path that is none cannot be watched; the client has not even seen the tree's number then.
func TestReadWatchErrors(t *testing.T) {
	w := led(t, watching(1, 1, "/a"))
	for _, p := range []string{"", "a", "/A", "/a/", "//", strings.Repeat("/n", 101)} {
		refuses(t, w, watching(4, 1, p), api.ErrForm)
		refuses(t, w, watching(0, 1, p), api.ErrForm)
	}
	if w.Client(4).Seen != 0 {
		t.Errorf("%v", w.Client(4))
	}
}

// P14.6: a watch is of the client's session, whether that is open or not, and whatever session the request names.
func TestReadWatchSession(t *testing.T) {
	w := led(t)
	d := watching(15, 1, "/a")
	d.Request.Session = 3
	if r := w.Do(d); r.Code != api.OK || !slices.Equal(w.Server(1).Watches, []api.Watch{{Session: 16, Kind: api.WatchData, Path: "/a"}}) {
		t.Errorf("%v, %v", r, w.Server(1).Watches)
	}
	does(t, w, writing(0, gone("/a")), api.Reply{Zxid: at(1, 4), Path: "/a", Notes: []api.Note{{Session: 16, Event: api.Event{Kind: api.EventGone, Path: "/a"}}}})
	if len(w.Client(15).Cache) != 0 {
		t.Errorf("%v", w.Client(15))
	}
}

// P14.6: that a node is not there is remembered, until it is made; other children of its parent are nothing to it.
func TestReadWatchMade(t *testing.T) {
	w := led(t)
	does(t, w, watching(4, 1, "/b"), api.Reply{Code: api.ErrNone, Zxid: at(1, 3)})
	does(t, w, watching(4, 1, "/"), api.Reply{Zxid: at(1, 3), Path: "/", Stat: api.Stat{Pzxid: at(1, 3), Cversion: 1, Kids: 1}})
	if r := w.Do(writing(0, made("/c", ""))); len(r.Notes) != 0 || len(w.Client(4).Cache) != 2 {
		t.Errorf("%v, %v", r, w.Client(4))
	}
	r := w.Do(writing(0, made("/b", "")))
	if !slices.Equal(r.Notes, []api.Note{{Session: 5, Event: api.Event{Kind: api.EventMade, Path: "/b"}}}) {
		t.Errorf("%v", r)
	}
	if l := w.Client(4).Cache; len(l) != 1 || l[0].Path != "/" {
		t.Errorf("%v", l)
	}
}

package world

import (
	"slices"

	"aviary/api"
	"aviary/client"
	"aviary/prep"
	"aviary/store"
	"aviary/tree"
	"aviary/wal"
	"aviary/watch"
	"aviary/zab"
)

// happen does a deed that is admitted. Where a reply says that it does not last, the world is of no use any more.
func (w *World) happen(d api.Deed) api.Reply {
	switch d.Kind {
	case api.DeedWrite:
		return w.write(d)
	case api.DeedRead:
		return w.read(d)
	case api.DeedCrash:
		return w.crash(d)
	case api.DeedUp:
		return w.up(d)
	}
	return w.elect()
}

func (w *World) crash(d api.Deed) api.Reply {
	if !w.servers[d.Server].Up {
		return refused(api.ErrDown)
	}
	s, e := store.Crash(w.servers[d.Server], d.Keep)
	if e != api.OK {
		return refused(e)
	}
	w.servers[d.Server] = s
	if w.roles[d.Server] == leading {
		w.disband()
	}
	w.roles[d.Server] = alone
	return api.Reply{}
}

// disband leaves no leader, and nobody who follows one.
func (w *World) disband() { w.roles = [api.Servers]role{} }

func (w *World) up(d api.Deed) api.Reply {
	if w.servers[d.Server].Up {
		return refused(api.ErrTwice)
	}
	s, e := store.Boot(d.Server, w.servers[d.Server].Disk)
	if e != api.OK {
		return refused(e)
	}
	w.servers[d.Server] = s
	return api.Reply{}
}

// elect makes the one that knows most the leader of all that are up, and brings their logs to its own.
func (w *World) elect() api.Reply {
	voters := w.voters()
	at, epoch, e := zab.Elect(w.peers(voters))
	if e != api.OK {
		return refused(e)
	}
	leader := voters[at]
	log := w.servers[leader].Peer.Log
	w.disband()
	for _, i := range voters {
		s, e := store.Follow(w.servers[i], log, epoch)
		if e != api.OK {
			return refused(e)
		}
		w.servers[i], w.roles[i] = s, following
	}
	w.roles[leader] = leading
	notes, e := w.commit(voters)
	if e != api.OK {
		return refused(e)
	}
	return api.Reply{Zxid: wal.Last(log), Notes: notes}
}

// voters is the numbers of the servers that are up.
func (w *World) voters() []int {
	var l []int
	for i, s := range w.servers {
		if s.Up {
			l = append(l, i)
		}
	}
	return l
}

// peers is what servers of these numbers have for the ensemble.
func (w *World) peers(numbers []int) []api.Peer {
	var l []api.Peer
	for _, i := range numbers {
		l = append(l, w.servers[i].Peer)
	}
	return l
}

// commit does all that stands in the logs of these servers, and tells the clients of it.
func (w *World) commit(numbers []int) ([]api.Note, api.Errno) {
	var notes []api.Note
	for _, i := range numbers {
		s, told, e := store.Commit(w.servers[i], len(w.servers[i].Peer.Log))
		if e != api.OK {
			return nil, e
		}
		w.servers[i] = s
		notes = append(notes, told...)
	}
	for i, c := range w.clients {
		w.clients[i] = client.Tell(c, notes)
	}
	return notes, api.OK
}

func (w *World) write(d api.Deed) api.Reply {
	if w.Leader() == nobody {
		return refused(api.ErrDown)
	}
	x, e := w.prepared(d)
	if e != api.OK {
		return refused(e)
	}
	safe, e := w.spread(x, d)
	if e != api.OK {
		return refused(e)
	}
	if len(safe) < zab.Quorum() {
		w.disband()
		return api.Reply{Code: api.ErrLost, Zxid: x.Zxid}
	}
	notes, e := w.commit(safe)
	if e != api.OK {
		return refused(e)
	}
	return w.acknowledge(x, d.Client, notes)
}

// prepared is the leader's transaction of what a client asks for. Whatever session the request names, a client speaks for its own.
func (w *World) prepared(d api.Deed) (api.Txn, api.Errno) {
	leader := w.servers[w.Leader()]
	z, e := zab.Next(leader.Peer)
	if e != api.OK {
		return api.Txn{}, e
	}
	r := d.Request
	r.Session = w.clients[d.Client].Session
	return prep.Prepare(leader.Tree, z, r)
}

// spread gives a transaction to those that follow, as far as letters come through, and is the numbers of those that have it safe.
// One that lacks it follows no more, so that no log ever has a gap.
func (w *World) spread(x api.Txn, d api.Deed) ([]int, api.Errno) {
	var safe []int
	for i, r := range w.roles {
		leads := r == leading
		if r == alone {
			continue
		}
		if !leads && bit(d.Lost, i) {
			w.roles[i] = alone
			continue
		}
		sure := leads || !bit(d.Slow, i)
		s, e := store.Take(w.servers[i], x, sure)
		if e != api.OK {
			return nil, e
		}
		w.servers[i] = s
		if sure {
			safe = append(safe, i)
		}
	}
	return safe, api.OK
}

// bit is a server's bit of a number. A shift rounds down below 0, too.
func bit(n, i int) bool { return n>>i&1 == 1 }

// acknowledge tells a client that its write is done.
func (w *World) acknowledge(x api.Txn, number int, notes []api.Note) api.Reply {
	c, e := client.See(w.clients[number], x.Zxid)
	if e != api.OK {
		return refused(e)
	}
	w.clients[number] = c
	w.acknowledged = append(slices.Clone(w.acknowledged), x)
	// Of no node there is a Stat of noughts.
	n, _ := tree.Get(w.servers[w.Leader()].Tree, x.Path)
	return api.Reply{Zxid: x.Zxid, Path: x.Path, Stat: n.Stat, Notes: notes}
}

func (w *World) read(d api.Deed) api.Reply {
	s := &w.servers[d.Server]
	if !s.Up {
		return refused(api.ErrDown)
	}
	c, e := client.See(w.clients[d.Client], s.Tree.Zxid)
	if e != api.OK {
		return refused(e)
	}
	n, absent := tree.Get(s.Tree, d.Request.Path)
	if d.Watch {
		s.Watches, e = watch.Add(s.Watches, api.Watch{Session: c.Session, Kind: api.WatchData, Path: d.Request.Path})
		if e != api.OK {
			return refused(e)
		}
		c = client.Keep(c, api.Entry{Path: d.Request.Path, Data: n.Data, There: absent == api.OK})
	}
	w.clients[d.Client] = c
	return api.Reply{Code: absent, Zxid: s.Tree.Zxid, Path: n.Path, Data: n.Data, Stat: n.Stat}
}

package tree

import (
	"slices"
	"strings"

	"aviary/api"
	"aviary/path"
)

// growth is a tree that is being changed, and what happened to it so far. Where an error is told it is of no use any more.
type growth struct {
	api.Tree
	events []api.Event
}

// begun is a copy of a good tree, to be changed by the transaction of a number.
func begun(t api.Tree, z int) *growth {
	g := &growth{}
	g.Zxid = z
	for _, n := range t.Nodes {
		g.Nodes = append(g.Nodes, copied(n))
	}
	g.Sessions = slices.Clone(t.Sessions)
	return g
}

// change does what a transaction asks for.
func (g *growth) change(x api.Txn) api.Errno {
	switch x.Op {
	case api.OpOpen:
		g.open(x.Session)
		return api.OK
	case api.OpClose:
		return g.close(x.Session)
	case api.OpCreate:
		return g.create(x)
	case api.OpDelete:
		return g.remove(x.Path)
	}
	return g.set(x)
}

func (g *growth) open(session int) {
	at, _ := slices.BinarySearch(g.Sessions, session)
	g.Sessions = slices.Insert(g.Sessions, at, session)
}

// close takes a session out, and its nodes. Their paths are listed ahead, as the list of nodes shrinks under way.
func (g *growth) close(session int) api.Errno {
	at, _ := slices.BinarySearch(g.Sessions, session)
	g.Sessions = slices.Delete(g.Sessions, at, at+1)
	for _, p := range g.owned(session) {
		if e := g.remove(p); e != api.OK {
			return e
		}
	}
	return api.OK
}

// owned is the paths of a session's nodes, rising.
func (g *growth) owned(session int) []string {
	var paths []string
	for _, n := range g.Nodes {
		if n.Stat.Owner == session {
			paths = append(paths, n.Path)
		}
	}
	return paths
}

func (g *growth) create(x api.Txn) api.Errno {
	at, twice := find(g.Nodes, x.Path)
	dir, _, _ := path.Split(x.Path)
	above, there := find(g.Nodes, dir)
	switch {
	case twice:
		return api.ErrTwice
	case !there:
		return api.ErrNone
	case g.Nodes[above].Stat.Owner != 0:
		return api.ErrOwned
	case x.Owner != 0 && x.Owner != x.Session:
		return api.ErrSession
	case len(g.Nodes) == api.MaxNodes:
		return api.ErrFull
	}
	stat := api.Stat{Czxid: x.Zxid, Mzxid: x.Zxid, Pzxid: x.Zxid, Owner: x.Owner}
	g.Nodes = slices.Insert(g.Nodes, at, copied(api.Node{Path: x.Path, Data: x.Data, Stat: stat}))
	g.tell(api.EventMade, x.Path)
	return g.parentChanges(dir, 1)
}

func (g *growth) remove(p string) api.Errno {
	at, there := find(g.Nodes, p)
	switch {
	case !there:
		return api.ErrNone
	case g.Nodes[at].Stat.Kids != 0:
		return api.ErrKids
	}
	g.Nodes = slices.Delete(g.Nodes, at, at+1)
	g.tell(api.EventGone, p)
	dir, _, _ := path.Split(p)
	return g.parentChanges(dir, -1)
}

func (g *growth) set(x api.Txn) api.Errno {
	at, there := find(g.Nodes, x.Path)
	if !there {
		return api.ErrNone
	}
	n := &g.Nodes[at]
	if x.Version != n.Stat.Version+1 {
		return api.ErrVersion
	}
	n.Data = strings.Clone(x.Data)
	n.Stat.Version = x.Version
	n.Stat.Mzxid = x.Zxid
	g.tell(api.EventData, x.Path)
	return api.OK
}

// parentChanges is what comes upon a parent when it has so many children more.
// It is there: the tree was good, and what has children is not taken out.
// A Cversion that has no room is found here, and not ahead, as all other errors are told first.
func (g *growth) parentChanges(p string, more int) api.Errno {
	at, _ := find(g.Nodes, p)
	s := &g.Nodes[at].Stat
	if s.Cversion == api.MaxCount {
		return api.ErrFull
	}
	s.Kids += more
	s.Cversion++
	s.Pzxid = g.Zxid
	g.tell(api.EventKids, p)
	return api.OK
}

// tell notes an event; its path is a copy, for events share no memory with nodes.
func (g *growth) tell(kind int, p string) {
	g.events = append(g.events, api.Event{Kind: kind, Path: strings.Clone(p)})
}

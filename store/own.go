package store

import (
	"slices"
	"strings"

	"aviary/api"
)

// copied is a server that shares no memory with what was handed in, its texts neither.
func copied(s api.Server) api.Server {
	s.Disk.Files = each(s.Disk.Files, ownFile)
	s.Peer.Log = each(s.Peer.Log, ownTxn)
	s.Tree.Nodes = each(s.Tree.Nodes, ownNode)
	s.Tree.Sessions = slices.Clone(s.Tree.Sessions)
	s.Watches = each(s.Watches, ownWatch)
	return s
}

// each is a new list of what a function makes of a list's elements.
func each[T any](l []T, own func(T) T) []T {
	c := slices.Clone(l)
	for i := range c {
		c[i] = own(c[i])
	}
	return c
}

func ownFile(f api.File) api.File {
	f.Name, f.Safe, f.Tail = strings.Clone(f.Name), strings.Clone(f.Safe), strings.Clone(f.Tail)
	return f
}

func ownTxn(x api.Txn) api.Txn {
	x.Path, x.Data = strings.Clone(x.Path), strings.Clone(x.Data)
	return x
}

func ownNode(n api.Node) api.Node {
	n.Path, n.Data = strings.Clone(n.Path), strings.Clone(n.Data)
	return n
}

func ownWatch(w api.Watch) api.Watch {
	w.Path = strings.Clone(w.Path)
	return w
}

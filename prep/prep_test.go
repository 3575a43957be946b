package prep

import (
	"fmt"
	"math"
	"math/rand"
	"slices"
	"strings"
	"testing"
	"unsafe"

	"aviary/api"
	"aviary/path"
	"aviary/tree"
)

const (
	most = 1<<31 - 1 // of versions, and of a session's number
	top  = 1<<62 - 1 // the greatest zxid
	odds = "\x00\xff/"
)

// base is a good tree: nodes with owners and without, with versions and without, and one that has children.
func base() api.Tree {
	return api.Tree{
		Zxid: 20,
		Nodes: []api.Node{
			{Path: "/", Data: "r", Stat: api.Stat{Mzxid: 3, Pzxid: 9, Version: 2, Cversion: 5, Kids: 3}},
			{Path: "/a", Data: odds, Stat: api.Stat{Czxid: 2, Mzxid: 4, Pzxid: 12, Version: 1, Cversion: 7, Kids: 2}},
			{Path: "/a-b", Stat: api.Stat{Czxid: 5, Mzxid: 5, Pzxid: 5}},
			{Path: "/a/b", Stat: api.Stat{Czxid: 10, Mzxid: 10, Pzxid: 10, Owner: 4}},
			{Path: "/a/c", Data: "c", Stat: api.Stat{Czxid: 11, Mzxid: 20, Pzxid: 11, Version: 3, Cversion: 123456789}},
			{Path: "/z", Stat: api.Stat{Czxid: 9, Mzxid: 9, Pzxid: 9, Owner: 9}},
		},
		Sessions: []int{1, 4, 9, most},
	}
}

// with is the base tree behind a change.
func with(change func(*api.Tree)) api.Tree {
	t := base()
	change(&t)
	return t
}

// full is a good tree of n nodes, all below the root.
func full(n int) api.Tree {
	t := api.Tree{Zxid: 1, Nodes: []api.Node{{Path: "/", Stat: api.Stat{Pzxid: 1, Cversion: n - 1, Kids: n - 1}}}, Sessions: []int{4}}
	for i := range n - 1 {
		t.Nodes = append(t.Nodes, api.Node{Path: fmt.Sprintf("/n%04d", i), Stat: api.Stat{Czxid: 1, Mzxid: 1, Pzxid: 1}})
	}
	return t
}

// deep is a good tree with the nodes above a path, and that one; the lowest one has a Cversion.
func deep(p string, cversion int) api.Tree {
	t := api.Tree{Zxid: 1, Sessions: []int{4}}
	for ; p != "/"; p, _, _ = path.Split(p) {
		t.Nodes = slices.Insert(t.Nodes, 0, api.Node{Path: p, Stat: api.Stat{Kids: min(len(t.Nodes), 1)}})
	}
	t.Nodes = slices.Insert(t.Nodes, 0, api.Node{Path: "/", Stat: api.Stat{Kids: min(len(t.Nodes), 1)}})
	t.Nodes[len(t.Nodes)-1].Stat.Cversion = cversion
	return t
}

func bads() map[string]api.Tree {
	return map[string]api.Tree{
		"nothing":       {},
		"no root":       {Nodes: []api.Node{{Path: "/a"}}, Sessions: []int{4}},
		"a wrong count": with(func(t *api.Tree) { t.Nodes[0].Stat.Kids = 4 }),
		"falling":       with(func(t *api.Tree) { slices.Reverse(t.Nodes) }),
		"sessions":      with(func(t *api.Tree) { t.Sessions = []int{9, 4} }),
		"an owner":      with(func(t *api.Tree) { t.Sessions = []int{1, 4} }),
		"too many":      full(api.MaxNodes + 1),
		"a zxid":        with(func(t *api.Tree) { t.Zxid = -1 }),
	}
}

// ready holds Prepare to a transaction, and that to the tree.
func ready(t *testing.T, what string, a api.Tree, r api.Request, want api.Txn) {
	t.Helper()
	x, e := Prepare(a, want.Zxid, r)
	if e != api.OK || x != want {
		t.Errorf("%s: %v: %v, %d; asked for %v", what, r, x, e, want)
	}
	if _, _, e := tree.Apply(a, x); e != api.OK {
		t.Errorf("%s: %v: Apply says %d", what, r, e)
	}
}

// refused holds Prepare to an error, and to no transaction beside it.
func refused(t *testing.T, what string, a api.Tree, z int, r api.Request, want api.Errno) {
	t.Helper()
	if x, e := Prepare(a, z, r); e != want || x != (api.Txn{}) {
		t.Errorf("%s: %d, %.200v: %v, %d; asked for %d", what, z, r, x, e, want)
	}
}

func create(p string, flags int) api.Request {
	return api.Request{Op: api.OpCreate, Session: 4, Path: p, Data: "d", Flags: flags}
}

func remove(p string, version int) api.Request {
	return api.Request{Op: api.OpDelete, Session: 4, Path: p, Version: version}
}

func set(p string, version int) api.Request {
	return api.Request{Op: api.OpSet, Session: 4, Path: p, Data: "d", Version: version}
}

// none is texts that are no paths.
func none() []string {
	long := strings.Repeat("/"+strings.Repeat("s", api.MaxName-1), api.MaxPath/api.MaxName) + "s"
	return []string{"", "a", "//", "/a/", "a/b", "/A", "/a//b", "/a b", "/.", "/\x00", "/é", "\xff", "/" + strings.Repeat("s", api.MaxName+1), long, strings.Repeat("/a", 1<<19)}
}

// P9.1: sessions are opened and closed; what else stands in the request does not matter.
func TestOpenClose(t *testing.T) {
	for _, r := range []api.Request{
		{},
		{Path: "/a", Data: "d", Version: 1, Flags: 3},
		{Path: "a", Version: math.MinInt, Flags: math.MaxInt},
		{Path: "/", Data: strings.Repeat("d", api.MaxData+1), Version: -1, Flags: -1},
		{Path: strings.Repeat("/a", 1<<19), Version: math.MaxInt, Flags: 4},
	} {
		for _, session := range []int{2, 5, most - 1} {
			r.Op, r.Session = api.OpOpen, session
			ready(t, "OpOpen", base(), r, api.Txn{Zxid: 21, Op: api.OpOpen, Session: session})
		}
		for _, session := range []int{1, 4, 9, most} {
			r.Op, r.Session = api.OpClose, session
			ready(t, "OpClose", base(), r, api.Txn{Zxid: 21, Op: api.OpClose, Session: session})
		}
	}
	for _, session := range []int{1, 7, most} {
		ready(t, "a new tree", tree.New(), api.Request{Op: api.OpOpen, Session: session}, api.Txn{Zxid: 1, Op: api.OpOpen, Session: session})
	}
}

// P9.1: the number is the one that is handed in, up to the last one of all.
func TestNumber(t *testing.T) {
	for _, z := range []int{21, 22, 1000, 1 << 31, 5<<31 + 7, top - 1, top} {
		ready(t, "OpOpen", base(), api.Request{Op: api.OpOpen, Session: 5}, api.Txn{Zxid: z, Op: api.OpOpen, Session: 5})
		ready(t, "OpClose", base(), api.Request{Op: api.OpClose, Session: 4}, api.Txn{Zxid: z, Op: api.OpClose, Session: 4})
		ready(t, "OpCreate", base(), create("/b", 0), api.Txn{Zxid: z, Op: api.OpCreate, Session: 4, Path: "/b", Data: "d"})
		ready(t, "OpDelete", base(), remove("/z", 0), api.Txn{Zxid: z, Op: api.OpDelete, Session: 4, Path: "/z"})
		ready(t, "OpSet", base(), set("/z", 0), api.Txn{Zxid: z, Op: api.OpSet, Session: 4, Path: "/z", Data: "d", Version: 1})
	}
}

// requests is one of each kind that the base tree takes.
func requests() []api.Request {
	return []api.Request{{Op: api.OpOpen, Session: 5}, {Op: api.OpClose, Session: 4}, create("/b", 0), create("/b", 3), remove("/z", 0), set("/a", 1)}
}

// P9.1: a tree that is not good, whatever is asked for; ahead of all other errors.
func TestBadTree(t *testing.T) {
	for what, a := range bads() {
		for _, r := range requests() {
			refused(t, what, a, 30, r, api.ErrRange)
			r.Op = 6
			refused(t, what+", no kind", a, 30, r, api.ErrRange)
		}
	}
}

// P9.1: a number that is not good; ahead of ErrKind and of ErrOrder.
func TestBadNumber(t *testing.T) {
	for _, z := range []int{-1, -21, top + 1, math.MinInt, math.MaxInt} {
		for _, r := range requests() {
			refused(t, "a number", base(), z, r, api.ErrRange)
			r.Op = 0
			refused(t, "a number, no kind", base(), z, r, api.ErrRange)
		}
	}
}

// P9.1: a session out of its bounds; ahead of ErrKind, ErrForm and ErrSession.
func TestBadSession(t *testing.T) {
	for _, session := range []int{0, -1, -4, most + 1, 1<<32 + 4, math.MinInt, math.MaxInt} {
		for _, r := range requests() {
			r.Session = session
			refused(t, "a session", base(), 30, r, api.ErrRange)
			r.Path = "a"
			refused(t, "a session, no path", base(), 30, r, api.ErrRange)
			r.Op = -1
			refused(t, "a session, no kind", base(), 30, r, api.ErrRange)
		}
	}
}

// P9.1: a kind that is none of the five; ahead of all that the kinds ask for, and of ErrOrder.
func TestKind(t *testing.T) {
	for _, op := range []int{0, 6, 7, -1, 256 + 1, 256 + 3, 1<<32 + 5, math.MinInt, math.MaxInt} {
		for _, r := range append(requests(), create("a", 4), set("/x", 7), remove("/", 9)) {
			for _, session := range []int{4, 5, most} {
				r.Op, r.Session = op, session
				refused(t, "a kind", base(), 30, r, api.ErrKind)
				refused(t, "a kind, an old number", base(), 20, r, api.ErrKind)
			}
		}
	}
}

// P9.2: OpDelete has the path alone; a version of -1 is any, the node's own is asked for as well.
func TestDelete(t *testing.T) {
	for p, version := range map[string]int{"/a-b": 0, "/a/b": 0, "/a/c": 3, "/z": 0} {
		for _, v := range []int{-1, version} {
			for _, session := range []int{1, 4, most} {
				r := api.Request{Op: api.OpDelete, Session: session, Path: p, Data: strings.Repeat("d", api.MaxData+1), Version: v, Flags: 9}
				ready(t, "OpDelete", base(), r, api.Txn{Zxid: 30, Op: api.OpDelete, Session: session, Path: p})
			}
		}
	}
}

// P9.2: OpSet has the data, and a version one more than the node's, whichever one was asked for; of the root, too.
func TestSet(t *testing.T) {
	for _, n := range base().Nodes {
		for _, v := range []int{-1, n.Stat.Version} {
			for _, data := range []string{"", odds, strings.Repeat("d", api.MaxData)} {
				r := api.Request{Op: api.OpSet, Session: 1, Path: n.Path, Data: data, Version: v, Flags: -7}
				ready(t, "OpSet", base(), r, api.Txn{Zxid: 30, Op: api.OpSet, Session: 1, Path: n.Path, Data: data, Version: n.Stat.Version + 1})
			}
		}
	}
}

// P9.2: the errors of OpDelete and OpSet, each alone and with those that the chapter names later.
func TestChangeErrors(t *testing.T) {
	for _, op := range []int{api.OpDelete, api.OpSet} {
		for _, p := range none() {
			refused(t, "no path", base(), 30, api.Request{Op: op, Session: 4, Path: p, Version: -1}, api.ErrForm)
			refused(t, "no path, not open", base(), 30, api.Request{Op: op, Session: 5, Path: p, Version: 8}, api.ErrForm)
		}
		for _, session := range []int{2, 3, 5, 10, most - 1} {
			for _, p := range []string{"/", "/a", "/z", "/b", "/a/b/c"} {
				refused(t, "not open", base(), 30, api.Request{Op: op, Session: session, Path: p, Version: -1}, api.ErrSession)
				refused(t, "not open, a version", base(), 20, api.Request{Op: op, Session: session, Path: p, Version: 8}, api.ErrSession)
			}
		}
		for _, p := range []string{"/b", "/a/b/c", "/a/a", "/zz", "/-", "/a-"} {
			for _, v := range []int{-1, 0, 1, -2, most} {
				refused(t, "no node", base(), 30, api.Request{Op: op, Session: 4, Path: p, Version: v}, api.ErrNone)
				refused(t, "no node, an old number", base(), 20, api.Request{Op: op, Session: 4, Path: p, Version: v}, api.ErrNone)
			}
		}
	}
}

// P9.2: a version that is neither -1 nor the node's; ahead of what Apply says of the data, of the root, of the number and of children.
func TestVersion(t *testing.T) {
	for _, n := range base().Nodes {
		for _, v := range []int{0, 1, 2, 3, 4, -2, -3, most, most + 1, 1<<32 - 1, 1<<32 + n.Stat.Version, math.MinInt, math.MaxInt} {
			if v == n.Stat.Version {
				continue
			}
			for _, z := range []int{20, 30} {
				refused(t, "OpDelete", base(), z, remove(n.Path, v), api.ErrVersion)
				refused(t, "OpSet", base(), z, set(n.Path, v), api.ErrVersion)
				long := set(n.Path, v)
				long.Data = strings.Repeat("d", api.MaxData+1)
				refused(t, "OpSet of much", base(), z, long, api.ErrVersion)
			}
		}
	}
}

// P9.2, P9.4: the last version of all is there, and none behind it; a node that has it can be deleted.
func TestLastVersion(t *testing.T) {
	for _, v := range []int{-1, most - 1} {
		old := with(func(t *api.Tree) { t.Nodes[2].Stat.Version = most - 1 })
		ready(t, "the last one", old, set("/a-b", v), api.Txn{Zxid: 30, Op: api.OpSet, Session: 4, Path: "/a-b", Data: "d", Version: most})
	}
	worn := with(func(t *api.Tree) { t.Nodes[2].Stat.Version = most })
	for _, v := range []int{-1, most} {
		refused(t, "behind the last one", worn, 30, set("/a-b", v), api.ErrRange)
		ready(t, "OpDelete", worn, remove("/a-b", v), api.Txn{Zxid: 30, Op: api.OpDelete, Session: 4, Path: "/a-b"})
	}
}

// P9.3: OpCreate with all flags: the path, or one with the parent's Cversion; an owner, or none. The request's version does not matter.
func TestCreate(t *testing.T) {
	for _, c := range []struct{ path, serial string }{
		{"/b", "/b0000000005"},
		{"/a/x-", "/a/x-0000000007"},
		{"/a-b/0", "/a-b/00000000000"},
		{"/a/c/_", "/a/c/_0123456789"},
	} {
		for flags, want := range []api.Txn{{Path: c.path}, {Path: c.path, Owner: 9}, {Path: c.serial}, {Path: c.serial, Owner: 9}} {
			for _, data := range []string{"", odds, strings.Repeat("d", api.MaxData)} {
				for _, version := range []int{0, -1, 7, math.MinInt} {
					want.Zxid, want.Op, want.Session, want.Data = 30, api.OpCreate, 9, data
					r := api.Request{Op: api.OpCreate, Session: 9, Path: c.path, Data: data, Version: version, Flags: flags}
					ready(t, "OpCreate", base(), r, want)
				}
			}
		}
	}
}

// P9.3: a node of that very name may be there, if another number comes behind it.
func TestCreateBehind(t *testing.T) {
	for p, want := range map[string]string{"/a": "/a0000000005", "/z": "/z0000000005", "/a/b": "/a/b0000000007"} {
		ready(t, "a serial one", base(), create(p, 2), api.Txn{Zxid: 30, Op: api.OpCreate, Session: 4, Path: want, Data: "d"})
		refused(t, "a plain one", base(), 30, create(p, 0), api.ErrTwice)
	}
}

// P9.3: numbers rise from one request to the next, whatever the names are, and though nodes go away.
func TestLine(t *testing.T) {
	a := deep("/q", 0)
	for i, r := range []api.Request{create("/q/n", 2), create("/q/n", 3), remove("/q/n0000000000", -1), create("/q/m", 2), set("/q", 0), create("/q/n", 3)} {
		x, e := Prepare(a, i+2, r)
		if want := []string{"/q/n0000000000", "/q/n0000000001", "/q/n0000000000", "/q/m0000000003", "/q", "/q/n0000000004"}[i]; e != api.OK || x.Path != want {
			t.Fatalf("step %d: %v, %d; asked for %s", i, x, e, want)
		}
		a, _, _ = tree.Apply(a, x)
	}
}

// P9.3: OpCreate's flags; ahead of ErrForm and ErrSession.
func TestFlags(t *testing.T) {
	for _, flags := range []int{-1, -2, 4, 5, 6, 7, 1<<32 + 1, math.MinInt, math.MaxInt} {
		refused(t, "flags", base(), 30, create("/b", flags), api.ErrRange)
		refused(t, "flags, no path", base(), 30, create("b", flags), api.ErrRange)
		refused(t, "flags, the root", base(), 30, create("/", flags), api.ErrRange)
		refused(t, "flags, not open", base(), 30, api.Request{Op: api.OpCreate, Session: 5, Path: "/b", Flags: flags}, api.ErrRange)
		refused(t, "flags, an old number", base(), 20, create("/a", flags), api.ErrRange)
	}
}

// P9.3: OpCreate's paths and sessions, each error alone and with those that the chapter names later.
func TestCreateErrors(t *testing.T) {
	for flags := range 4 {
		for _, p := range append(none(), "/") {
			refused(t, "no path", base(), 30, create(p, flags), api.ErrForm)
			refused(t, "no path, not open", base(), 20, api.Request{Op: api.OpCreate, Session: 5, Path: p, Flags: flags}, api.ErrForm)
		}
		for _, session := range []int{2, 3, 5, 10, most - 1} {
			for _, p := range []string{"/b", "/a", "/x/y", "/z/a", "/a/" + strings.Repeat("s", 31)} {
				refused(t, "not open", base(), 30, api.Request{Op: api.OpCreate, Session: session, Path: p, Flags: flags}, api.ErrSession)
			}
		}
		for _, p := range []string{"/x/y", "/a/b/c/d", "/b/c", "/aa/b"} {
			refused(t, "no parent", base(), 30, create(p, flags), api.ErrNone)
		}
	}
}

// P9.3: a parent that is none comes ahead of Serial's and Join's errors and of ErrOrder; without FlagSequential it comes from Apply, behind that.
func TestNoParent(t *testing.T) {
	p := "/x/" + strings.Repeat("s", 31)
	for flags := range 2 {
		refused(t, "plain", base(), 30, create(p, flags), api.ErrNone)
		refused(t, "plain, an old number", base(), 20, create(p, flags), api.ErrOrder)
		refused(t, "serial", base(), 30, create(p, flags|2), api.ErrNone)
		refused(t, "serial, an old number", base(), 20, create(p, flags|2), api.ErrNone)
	}
	long := strings.Repeat("/"+strings.Repeat("s", api.MaxName-1), api.MaxPath/api.MaxName)
	for _, flags := range []int{2, 3} {
		refused(t, "no room for a number", base(), 30, create(long, flags), api.ErrNone)
	}
}

// P9.3: a step that has no room for ten digits is Serial's ErrForm; it comes ahead of Apply's errors.
func TestSerialErrors(t *testing.T) {
	for n := 1; n <= api.MaxName; n++ {
		step := strings.Repeat("s", n)
		ready(t, "plain", base(), create("/"+step, 1), api.Txn{Zxid: 30, Op: api.OpCreate, Session: 4, Path: "/" + step, Data: "d", Owner: 4})
		if n <= api.MaxName-10 {
			ready(t, "serial", base(), create("/"+step, 3), api.Txn{Zxid: 30, Op: api.OpCreate, Session: 4, Path: "/" + step + "0000000005", Data: "d", Owner: 4})
			continue
		}
		refused(t, "serial", base(), 30, create("/"+step, 2), api.ErrForm)
		refused(t, "serial, an old number", base(), 20, create("/"+step, 3), api.ErrForm)
		refused(t, "serial, an owned parent", base(), 30, create("/z/"+step, 2), api.ErrForm)
	}
}

// P9.3: a path that has no room for ten digits is Join's ErrLong; behind Serial's error, ahead of Apply's.
func TestJoinErrors(t *testing.T) {
	dir := strings.Repeat("/"+strings.Repeat("s", api.MaxName-1), 4) // of 160 bytes
	a := deep(dir, 42)
	for n := 1; n < api.MaxName; n++ {
		p := dir + "/" + strings.Repeat("t", n)
		ready(t, "plain", a, create(p, 0), api.Txn{Zxid: 30, Op: api.OpCreate, Session: 4, Path: p, Data: "d"})
		switch {
		case len(p)+10 <= api.MaxPath:
			ready(t, "serial", a, create(p, 2), api.Txn{Zxid: 30, Op: api.OpCreate, Session: 4, Path: p + "0000000042", Data: "d"})
		case n+10 <= api.MaxName:
			refused(t, "too long", a, 30, create(p, 2), api.ErrLong)
			refused(t, "too long, an old number", a, 1, create(p, 2), api.ErrLong)
		default:
			refused(t, "too long, and no step", a, 30, create(p, 2), api.ErrForm)
		}
	}
	if a.Nodes[4].Stat.Owner = 4; !tree.Good(a) {
		t.Fatal("not good")
	}
	refused(t, "too long, an owned parent", a, 30, create(dir+"/"+strings.Repeat("t", 30), 2), api.ErrLong)
}

// P9.3, P9.4: the last Cversion of all has a serial number, but no room for a change.
func TestLastCversion(t *testing.T) {
	a := deep("/q", most-1)
	ready(t, "the last but one", a, create("/q/n", 2), api.Txn{Zxid: 30, Op: api.OpCreate, Session: 4, Path: "/q/n2147483646", Data: "d"})
	for flags := range 4 {
		refused(t, "the last one", deep("/q", most), 30, create("/q/n", flags), api.ErrFull)
	}
}

// P9.4: Apply's errors, of all kinds of requests.
func TestApplyErrors(t *testing.T) {
	long := strings.Repeat("d", api.MaxData+1)
	for _, c := range []struct {
		what string
		z    int
		r    api.Request
		want api.Errno
	}{
		{"opened twice", 30, api.Request{Op: api.OpOpen, Session: 4}, api.ErrTwice},
		{"closed, not open", 30, api.Request{Op: api.OpClose, Session: 5}, api.ErrSession},
		{"an old number of OpOpen", 20, api.Request{Op: api.OpOpen, Session: 5}, api.ErrOrder},
		{"an old number of OpOpen, opened twice", 20, api.Request{Op: api.OpOpen, Session: 4}, api.ErrOrder},
		{"number 0", 0, api.Request{Op: api.OpClose, Session: 4}, api.ErrOrder},
		{"an old number of OpClose, not open", 19, api.Request{Op: api.OpClose, Session: 5}, api.ErrOrder},
		{"an old number of OpCreate", 20, create("/b", 0), api.ErrOrder},
		{"an old number of OpCreate, twice", 20, create("/a", 0), api.ErrOrder},
		{"an old number of OpDelete", 20, remove("/z", -1), api.ErrOrder},
		{"an old number of OpDelete, children", 20, remove("/a", -1), api.ErrOrder},
		{"an old number of OpSet", 20, set("/a", 1), api.ErrOrder},
		{"the root deleted", 30, remove("/", -1), api.ErrForm},
		{"the root deleted by its version", 30, remove("/", 2), api.ErrForm},
		{"the root deleted, an old number", 20, remove("/", 2), api.ErrForm},
		{"children", 30, remove("/a", 1), api.ErrKids},
		{"a node twice", 30, create("/a", 0), api.ErrTwice},
		{"an owned node twice", 30, create("/a/b", 1), api.ErrTwice},
		{"an owned parent", 30, create("/z/a", 0), api.ErrOwned},
		{"an owned parent, serial", 30, create("/z/a", 2), api.ErrOwned},
		{"one's own parent", 30, create("/a/b/c", 3), api.ErrOwned},
		{"much data created", 30, api.Request{Op: api.OpCreate, Session: 4, Path: "/b", Data: long}, api.ErrLong},
		{"much data created, an old number", 20, api.Request{Op: api.OpCreate, Session: 4, Path: "/a", Data: long, Flags: 1}, api.ErrLong},
		{"much data, serial", 30, api.Request{Op: api.OpCreate, Session: 4, Path: "/b", Data: long, Flags: 3}, api.ErrLong},
		{"much data set", 30, api.Request{Op: api.OpSet, Session: 4, Path: "/", Data: long, Version: 2}, api.ErrLong},
	} {
		refused(t, c.what, base(), c.z, c.r, c.want)
	}
}

// P9.4: a serial name may be there, as somebody made it by hand.
func TestSerialTwice(t *testing.T) {
	a, _, e := tree.Apply(base(), api.Txn{Zxid: 21, Op: api.OpCreate, Session: 4, Path: "/q0000000006"})
	if e != api.OK {
		t.Fatal(e)
	}
	refused(t, "serial", a, 30, create("/q", 2), api.ErrTwice)
	ready(t, "another one", a, create("/p", 2), api.Txn{Zxid: 30, Op: api.OpCreate, Session: 4, Path: "/p0000000006", Data: "d"})
}

// P9.4: a tree that is full, and one whose Cversions are.
func TestFull(t *testing.T) {
	ready(t, "the last node", full(api.MaxNodes-1), create("/b", 0), api.Txn{Zxid: 30, Op: api.OpCreate, Session: 4, Path: "/b", Data: "d"})
	for flags := range 4 {
		refused(t, "a node too many", full(api.MaxNodes), 30, create("/b", flags), api.ErrFull)
	}
	ready(t, "OpSet", full(api.MaxNodes), set("/n0398", 0), api.Txn{Zxid: 30, Op: api.OpSet, Session: 4, Path: "/n0398", Data: "d", Version: 1})
	worn := with(func(t *api.Tree) { t.Nodes[0].Stat.Cversion, t.Nodes[1].Stat.Cversion = most, most })
	refused(t, "no room at the root", worn, 30, remove("/a-b", -1), api.ErrFull)
	refused(t, "no room below it", worn, 30, remove("/a/c", 3), api.ErrFull)
	refused(t, "no room for a session's nodes", worn, 30, api.Request{Op: api.OpClose, Session: 9}, api.ErrFull)
	ready(t, "a session without nodes", worn, api.Request{Op: api.OpClose, Session: 1}, api.Txn{Zxid: 30, Op: api.OpClose, Session: 1})
}

// byWords is what the chapter asks for, written down in its order.
func byWords(t api.Tree, z int, r api.Request) (api.Txn, api.Errno) {
	there := map[string]api.Stat{}
	for _, n := range t.Nodes {
		there[n.Path] = n.Stat
	}
	change, made, serial := r.Op == 4 || r.Op == 5, r.Op == 3, r.Op == 3 && r.Flags&2 != 0
	open := slices.Contains(t.Sessions, r.Session)
	s, found := there[r.Path]
	dir, step, _ := path.Split(r.Path)
	above, held := there[dir]
	numbered := fmt.Sprintf("%s%010d", step, above.Cversion)
	p := strings.TrimSuffix(dir, "/") + "/" + numbered
	for _, c := range []struct {
		wrong bool
		code  api.Errno
	}{
		{!tree.Good(t) || z < 0 || z >= 1<<62 || r.Session < 1 || r.Session >= 1<<31, api.ErrRange},
		{r.Op < 1 || r.Op > 5, api.ErrKind},
		{change && !path.Good(r.Path), api.ErrForm},
		{change && !open, api.ErrSession},
		{change && !found, api.ErrNone},
		{change && r.Version != -1 && r.Version != s.Version, api.ErrVersion},
		{made && (r.Flags < 0 || r.Flags > 3), api.ErrRange},
		{made && (!path.Good(r.Path) || r.Path == "/"), api.ErrForm},
		{made && !open, api.ErrSession},
		{serial && !held, api.ErrNone},
		{serial && len(numbered) > 40, api.ErrForm},
		{serial && len(p) > 200, api.ErrLong},
	} {
		if c.wrong {
			return api.Txn{}, c.code
		}
	}
	x := map[int]api.Txn{
		3: {Path: r.Path, Data: r.Data, Owner: r.Flags & 1 * r.Session},
		4: {Path: r.Path},
		5: {Path: r.Path, Data: r.Data, Version: s.Version + 1},
	}[r.Op]
	if serial {
		x.Path = p
	}
	x.Zxid, x.Op, x.Session = z, r.Op, r.Session
	if _, _, e := tree.Apply(t, x); e != api.OK {
		return api.Txn{}, e
	}
	return x, api.OK
}

// pick is one of some things.
func pick[T any](r *rand.Rand, l ...T) T { return l[r.Intn(len(l))] }

// chance is a request that may fit a tree, or not quite.
func chance(r *rand.Rand, t api.Tree) api.Request {
	p := ""
	for range 1 + r.Intn(3) {
		p += pick(r, "/a", "/b", "/a-b", "/0")
	}
	switch r.Intn(12) {
	case 0:
		p = pick(r, "", "/", "/a/", "a", "//", p+"/"+strings.Repeat("s", 31))
	case 1, 2, 3, 4:
		p = t.Nodes[r.Intn(len(t.Nodes))].Path
	}
	n, _ := tree.Get(t, p)
	q := api.Request{Op: 1 + r.Intn(5), Session: 1 + r.Intn(5), Path: p, Data: strings.Repeat("d", pick(r, 0, 1, 2, 256)), Version: pick(r, -1, n.Stat.Version, n.Stat.Version, r.Intn(4)), Flags: r.Intn(4)}
	if q.Op == 2 && r.Intn(3) > 0 { // so that sessions stay open for a while
		q.Op = 3
	}
	switch r.Intn(25) {
	case 0:
		q.Op = pick(r, 0, 6, -1)
	case 1:
		q.Flags = pick(r, 4, -1, 7)
	case 2:
		q.Session = pick(r, 0, -1, most, most+1)
	case 3:
		q.Data = strings.Repeat("d", 257)
	case 4:
		q.Version = pick(r, -2, most, most+1)
	}
	return q
}

// P9.1 to P9.4: long ways of requests, each made ready and done, against the chapter by another hand.
func TestWays(t *testing.T) {
	codes := map[api.Errno]int{}
	for seed := range 60 {
		r := rand.New(rand.NewSource(int64(seed)))
		a := tree.New()
		if seed%4 == 0 {
			a.Nodes[0].Stat.Cversion = most - 12
		}
		for i := range 250 {
			q, z := chance(r, a), a.Zxid+pick(r, 1, 1, 1, 2, 3, 1<<31, 0)
			if r.Intn(40) == 0 {
				z = pick(r, -1, top+1, 0)
			}
			want, code := byWords(a, z, q)
			x, e := Prepare(a, z, q)
			codes[e]++
			if x != want || e != code {
				t.Fatalf("way %d, step %d: %d, %v: %v, %d; asked for %v, %d", seed, i, z, q, x, e, want, code)
			}
			if e == api.OK {
				a, _, _ = tree.Apply(a, x)
			}
		}
	}
	for _, e := range []api.Errno{api.OK, api.ErrLong, api.ErrForm, api.ErrRange, api.ErrKind, api.ErrFull, api.ErrNone, api.ErrTwice, api.ErrVersion, api.ErrKids, api.ErrOwned, api.ErrSession, api.ErrOrder} {
		if codes[e] < 20 {
			t.Errorf("%d came up %d times", e, codes[e])
		}
	}
}

// P9.1 to P9.4: a tree that is handed in is not changed, its spare room neither, and asked again it answers the same.
func TestApart(t *testing.T) {
	for _, r := range append(requests(), set("/", 7), remove("/", -1), create("/x/y", 2)) {
		room := base()
		room.Nodes = append(room.Nodes, api.Node{Path: "/zz", Data: "spare"}, api.Node{Path: "room"})
		room.Sessions = append(room.Sessions, 77, 78)
		nodes, sessions := slices.Clone(room.Nodes), slices.Clone(room.Sessions)
		a := room
		a.Nodes, a.Sessions = a.Nodes[:len(base().Nodes)], a.Sessions[:len(base().Sessions)]
		x, e := Prepare(a, 30, r)
		y, f := Prepare(a, 30, r)
		if x != y || e != f {
			t.Errorf("%v: %v, %d, then %v, %d", r, x, e, y, f)
		}
		if !slices.Equal(room.Nodes, nodes) || !slices.Equal(room.Sessions, sessions) || a.Zxid != 20 {
			t.Errorf("%v changed the tree: %v", r, room)
		}
	}
}

func shares(a, b string) bool {
	return a != "" && b != "" && unsafe.StringData(a) == unsafe.StringData(b)
}

// P9.2, P9.3: texts that come out are copies of those that were handed in.
func TestTextsApart(t *testing.T) {
	a := base()
	for _, r := range []api.Request{create("/b", 0), create("/b", 1), create("/b", 2), create("/a/b", 3), remove("/z", -1), set("/", 2), set("/a", 1)} {
		x, e := Prepare(a, 30, r)
		if e != api.OK || shares(x.Path, r.Path) || shares(x.Data, r.Data) {
			t.Errorf("%v: %v, %d shares a text", r, x, e)
		}
		for _, n := range a.Nodes {
			if shares(x.Path, n.Path) || shares(x.Data, n.Data) {
				t.Errorf("%v: %v shares a text with %s", r, x, n.Path)
			}
		}
	}
}

// P9.1: lists without elements, nil or not.
func TestEmptyLists(t *testing.T) {
	for _, sessions := range [][]int{nil, {}} {
		a := api.Tree{Nodes: []api.Node{{Path: "/"}}, Sessions: sessions}
		ready(t, "OpOpen", a, api.Request{Op: api.OpOpen, Session: 1}, api.Txn{Zxid: 1, Op: api.OpOpen, Session: 1})
		for _, r := range []api.Request{create("/a", 0), create("/a", 3), remove("/a", -1), set("/", -1), {Op: api.OpClose, Session: 4}} {
			refused(t, "nobody", a, 1, r, api.ErrSession)
		}
		a.Nodes = a.Nodes[:0]
		refused(t, "nothing", a, 1, api.Request{Op: api.OpOpen, Session: 1}, api.ErrRange)
	}
}

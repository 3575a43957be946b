package tree

import (
	"fmt"
	"maps"
	"math"
	"math/rand"
	"reflect"
	"slices"
	"strings"
	"testing"
	"unsafe"

	"aviary/api"
	"aviary/path"
	"aviary/wire"
)

const (
	most = 1<<31 - 1 // of versions, and of a session's number
	top  = 1<<62 - 1 // the greatest zxid
	odds = "\x00\xff/"
)

// base is a good tree: a step that goes on behind another one stands between that one and its children.
func base() api.Tree {
	return api.Tree{
		Zxid: 20,
		Nodes: []api.Node{
			{Path: "/", Data: "r", Stat: api.Stat{Mzxid: 3, Pzxid: 9, Version: 2, Cversion: 5, Kids: 3}},
			{Path: "/a", Data: odds, Stat: api.Stat{Czxid: 2, Mzxid: 4, Pzxid: 12, Version: 1, Cversion: 7, Kids: 3}},
			{Path: "/a-b", Stat: api.Stat{Czxid: 5, Mzxid: 5, Pzxid: 5}},
			{Path: "/a/b", Stat: api.Stat{Czxid: 10, Mzxid: 10, Pzxid: 10, Owner: 4}},
			{Path: "/a/c", Data: "c", Stat: api.Stat{Czxid: 11, Mzxid: 11, Pzxid: 15, Cversion: 2, Kids: 1}},
			{Path: "/a/c/b", Stat: api.Stat{Czxid: 15, Mzxid: 20, Pzxid: 15, Version: 3, Owner: 4}},
			{Path: "/a/d", Stat: api.Stat{Czxid: 12, Mzxid: 12, Pzxid: 12, Owner: 9}},
			{Path: "/z", Stat: api.Stat{Czxid: 9, Mzxid: 9, Pzxid: 9, Owner: 4}},
		},
		Sessions: []int{1, 4, 9, most},
	}
}

// with is the base tree behind a change.
func with(change func(*api.Tree)) api.Tree {
	t := base()
	change(&t)
	return t
}

// full is a good tree of n nodes, all below the root.
func full(n int) api.Tree {
	t := api.Tree{Zxid: 1, Nodes: []api.Node{{Path: "/", Stat: api.Stat{Pzxid: 1, Cversion: n - 1, Kids: n - 1}}}, Sessions: []int{1}}
	for i := range n - 1 {
		t.Nodes = append(t.Nodes, api.Node{Path: fmt.Sprintf("/n%04d", i), Stat: api.Stat{Czxid: 1, Mzxid: 1, Pzxid: 1}})
	}
	return t
}

// bads is trees that are not good.
func bads() map[string]api.Tree {
	return map[string]api.Tree{
		"nothing":       {},
		"no root":       {Nodes: []api.Node{{Path: "/a"}}},
		"a wrong count": with(func(t *api.Tree) { t.Nodes[0].Stat.Kids = 4 }),
		"falling":       with(func(t *api.Tree) { slices.Reverse(t.Nodes) }),
		"sessions":      with(func(t *api.Tree) { t.Sessions = []int{9, 4} }),
		"too many":      full(api.MaxNodes + 1),
		"a zxid":        with(func(t *api.Tree) { t.Zxid = -1 }),
	}
}

func alike(a, b api.Tree) bool {
	return a.Zxid == b.Zxid && slices.Equal(a.Nodes, b.Nodes) && slices.Equal(a.Sessions, b.Sessions)
}

// applied holds Apply to a tree and events; what it answers is good, too.
func applied(t *testing.T, what string, a api.Tree, x api.Txn, want api.Tree, events ...api.Event) {
	t.Helper()
	got, l, e := Apply(a, x)
	if e != api.OK || !alike(got, want) || !slices.Equal(l, events) {
		t.Errorf("%s: %v, %v, %d; asked for %v, %v", what, got, l, e, want, events)
	}
	if !Good(got) {
		t.Errorf("%s: not good: %v", what, got)
	}
}

// refused holds Apply to an error, and to nothing beside it.
func refused(t *testing.T, what string, a api.Tree, x api.Txn, want api.Errno) {
	t.Helper()
	got, l, e := Apply(a, x)
	if e != want || !alike(got, api.Tree{}) || len(l) != 0 {
		t.Errorf("%s: %v: %v, %v, %d; asked for %d", what, x, got, l, e, want)
	}
}

func made(p string) api.Event { return api.Event{Kind: api.EventMade, Path: p} }
func gone(p string) api.Event { return api.Event{Kind: api.EventGone, Path: p} }
func data(p string) api.Event { return api.Event{Kind: api.EventData, Path: p} }
func kids(p string) api.Event { return api.Event{Kind: api.EventKids, Path: p} }

// P6.1
func TestNew(t *testing.T) {
	for range 2 {
		a := New()
		if !alike(a, api.Tree{Nodes: []api.Node{{Path: "/"}}}) || !Good(a) {
			t.Errorf("New: %v", a)
		}
		a.Nodes[0].Data = "changed"
	}
}

// P6.2: every node that is there, and texts that are none.
func TestGet(t *testing.T) {
	a := base()
	for _, n := range a.Nodes {
		if got, e := Get(a, n.Path); got != n || e != api.OK {
			t.Errorf("Get of %s: %v, %d", n.Path, got, e)
		}
	}
	for _, p := range []string{"", "a", "//", "/a/", "/b", "/a/b/c", "/a/a", "/a/e", "/zz", "/0", "/a-", "/-", "/A", "\xff", "/a\x00", strings.Repeat("/a", 1<<19)} {
		if got, e := Get(a, p); got != (api.Node{}) || e != api.ErrNone {
			t.Errorf("Get of %.50q: %v, %d", p, got, e)
		}
	}
	big := full(api.MaxNodes)
	for _, n := range big.Nodes {
		if got, e := Get(big, n.Path); got != n || e != api.OK {
			t.Errorf("Get of %s: %v, %d", n.Path, got, e)
		}
	}
}

// P6.2
func TestOpen(t *testing.T) {
	a := base()
	for _, s := range []int{math.MinInt, -4, -1, 0, 1, 2, 3, 4, 5, 8, 9, 10, most - 1, most, most + 1, 1<<32 + 4, math.MaxInt} {
		if got := Open(a, s); got != slices.Contains(a.Sessions, s) {
			t.Errorf("Open of %d: %t", s, got)
		}
		if Open(New(), s) {
			t.Errorf("Open of %d in a new tree", s)
		}
	}
}

// P6.2: children alone, none that lie deeper, and none of a node whose path begins alike.
func TestKids(t *testing.T) {
	a := base()
	for p, want := range map[string][]string{
		"/":      {"a", "a-b", "z"},
		"/a":     {"b", "c", "d"},
		"/a-b":   nil,
		"/a/b":   nil,
		"/a/c":   {"b"},
		"/a/c/b": nil,
		"/z":     nil,
	} {
		if got, e := Kids(a, p); !slices.Equal(got, want) || e != api.OK {
			t.Errorf("Kids of %s: %q, %d", p, got, e)
		}
	}
	for _, p := range []string{"", "a", "//", "/a/", "/b", "/a/b/c", "/zz", "/A", "\xff"} {
		if got, e := Kids(a, p); len(got) != 0 || e != api.ErrNone {
			t.Errorf("Kids of %q: %q, %d", p, got, e)
		}
	}
	if got, e := Kids(New(), "/"); len(got) != 0 || e != api.OK {
		t.Errorf("Kids of a new root: %q, %d", got, e)
	}
	got, e := Kids(full(api.MaxNodes), "/")
	if len(got) != api.MaxNodes-1 || e != api.OK || !slices.IsSorted(got) {
		t.Errorf("Kids of a full tree: %d of them, %d", len(got), e)
	}
}

// P6.2: children's last steps rise though children of theirs stand between them.
func TestKidsRise(t *testing.T) {
	a := grown(t, "/x", "/x-", "/x/0", "/x/0-", "/x/0/z", "/x/00", "/x/_", "/x/a", "/x/a-a", "/x/a/0", "/x0", "/x_")
	want := []string{"0", "0-", "00", "_", "a", "a-a"}
	if got, e := Kids(a, "/x"); !slices.Equal(got, want) || e != api.OK {
		t.Errorf("Kids: %q, %d", got, e)
	}
	if got, _ := Kids(a, "/"); !slices.Equal(got, []string{"x", "x-", "x0", "x_"}) {
		t.Errorf("Kids of the root: %q", got)
	}
}

// grown is a tree with these nodes, each made by a transaction of session 1, in this order.
func grown(t *testing.T, paths ...string) api.Tree {
	t.Helper()
	a, _, e := Apply(New(), api.Txn{Zxid: 1, Op: api.OpOpen, Session: 1})
	for i, p := range paths {
		if e == api.OK {
			a, _, e = Apply(a, api.Txn{Zxid: i + 2, Op: api.OpCreate, Session: 1, Path: p})
		}
	}
	if e != api.OK {
		t.Fatalf("grown: %d", e)
	}
	return a
}

// P6.2: of a tree that is not good these calls end.
func TestBadTreesEnd(t *testing.T) {
	all := bads()
	all["nodes that are none"] = api.Tree{Nodes: []api.Node{{Path: ""}, {Path: "x"}, {Path: "/"}, {Path: ""}, {Path: "//"}}, Sessions: []int{3, 3, -1}}
	for _, a := range all {
		for _, p := range []string{"", "/", "/a", "x", "//"} {
			Get(a, p)
			Kids(a, p)
		}
		for _, s := range []int{math.MinInt, -1, 0, 3, math.MaxInt} {
			Open(a, s)
		}
	}
}

// P6.3
func TestGood(t *testing.T) {
	for what, a := range map[string]api.Tree{
		"base":           base(),
		"new":            New(),
		"one node":       {Zxid: top, Nodes: []api.Node{{Path: "/", Data: strings.Repeat(odds, 99)[:api.MaxData], Stat: api.Stat{Mzxid: top, Pzxid: top, Version: most, Cversion: most}}}},
		"created late":   {Zxid: top, Nodes: []api.Node{{Path: "/", Stat: api.Stat{Czxid: top, Mzxid: top, Pzxid: top}}}},
		"empty sessions": {Nodes: []api.Node{{Path: "/"}}, Sessions: []int{}},
		"full":           full(api.MaxNodes),
		"nearly full":    full(api.MaxNodes - 1),
		"one below it":   full(2),
		"no data":        with(func(t *api.Tree) { t.Nodes[1].Data = "" }),
		"long data":      with(func(t *api.Tree) { t.Nodes[7].Data = strings.Repeat("d", api.MaxData) }),
	} {
		if !Good(a) {
			t.Errorf("not good: %s", what)
		}
	}
}

// P6.3: a fault at a time, at first, last and middle nodes.
func TestGoodFaults(t *testing.T) {
	long := strings.Repeat("d", api.MaxData+1)
	for what, change := range map[string]func(*api.Tree){
		"zxid below 0":           func(t *api.Tree) { t.Zxid = -1 },
		"least zxid":             func(t *api.Tree) { t.Zxid = math.MinInt },
		"zxid too great":         func(t *api.Tree) { t.Zxid = top + 1 },
		"greatest zxid":          func(t *api.Tree) { t.Zxid = math.MaxInt },
		"no nodes":               func(t *api.Tree) { t.Nodes = nil },
		"empty nodes":            func(t *api.Tree) { t.Nodes = t.Nodes[:0] },
		"no root":                func(t *api.Tree) { t.Nodes = t.Nodes[1:] },
		"an empty path first":    func(t *api.Tree) { t.Nodes = slices.Insert(t.Nodes, 0, api.Node{}) },
		"an empty path for root": func(t *api.Tree) { t.Nodes[0].Path = "" },
		"two roots":              func(t *api.Tree) { t.Nodes = slices.Insert(t.Nodes, 1, t.Nodes[0]) },
		"root last":              func(t *api.Tree) { t.Nodes = append(t.Nodes[1:], t.Nodes[0]) },
		"twice":                  func(t *api.Tree) { t.Nodes[2] = t.Nodes[1] },
		"last twice":             func(t *api.Tree) { t.Nodes[0].Stat.Kids = 4; t.Nodes = append(t.Nodes, t.Nodes[7]) },
		"falling":                func(t *api.Tree) { t.Nodes[2], t.Nodes[3] = t.Nodes[3], t.Nodes[2] },
		"last two falling":       func(t *api.Tree) { t.Nodes[6], t.Nodes[7] = t.Nodes[7], t.Nodes[6] },
		"by step, not by byte":   func(t *api.Tree) { n := t.Nodes[2]; copy(t.Nodes[2:], t.Nodes[3:7]); t.Nodes[6] = n },
		"no parent":              func(t *api.Tree) { t.Nodes = slices.Delete(t.Nodes, 4, 5); t.Nodes[1].Stat.Kids = 2 },
		"a far parent":           func(t *api.Tree) { t.Nodes[7].Path = "/z/y"; t.Nodes[0].Stat.Kids = 2 },
		"a far parent, counted":  func(t *api.Tree) { t.Nodes[7].Path = "/z/y" },
		"no path":                func(t *api.Tree) { t.Nodes[7].Path = "/z/"; t.Nodes[0].Stat.Kids = 2 },
		"no path, counted":       func(t *api.Tree) { t.Nodes[7].Path = "/z/" },
		"a great letter":         func(t *api.Tree) { t.Nodes[1].Path = "/A" },
		"no slash":               func(t *api.Tree) { t.Nodes[7].Path = "z" },
		"a step too long":        func(t *api.Tree) { t.Nodes[7].Path = "/z" + strings.Repeat("z", api.MaxName) },
		"data too long":          func(t *api.Tree) { t.Nodes[4].Data = long },
		"root's data too long":   func(t *api.Tree) { t.Nodes[0].Data = long },
		"last data too long":     func(t *api.Tree) { t.Nodes[7].Data = long },
		"session 0":              func(t *api.Tree) { t.Sessions[0] = 0 },
		"a session below 0":      func(t *api.Tree) { t.Sessions[0] = -1 },
		"session too great":      func(t *api.Tree) { t.Sessions[3] = most + 1 },
		"greatest session":       func(t *api.Tree) { t.Sessions[3] = math.MaxInt },
		"sessions twice":         func(t *api.Tree) { t.Sessions[0] = 4 },
		"last session twice":     func(t *api.Tree) { t.Sessions[3] = 9 },
		"sessions falling":       func(t *api.Tree) { t.Sessions[1], t.Sessions[2] = 9, 4 },
		"no sessions":            func(t *api.Tree) { t.Sessions = nil },
		"an owner gone":          func(t *api.Tree) { t.Sessions[2] = 8 },
		"an owner below 0":       func(t *api.Tree) { t.Nodes[3].Stat.Owner = -4 },
		"an owner too great":     func(t *api.Tree) { t.Nodes[3].Stat.Owner = 1<<32 + 4 },
		"root owned":             func(t *api.Tree) { t.Nodes[0].Stat.Owner = 4 },
		"a parent owned":         func(t *api.Tree) { t.Nodes[4].Stat.Owner = 4 },
		"a parent owned, 1":      func(t *api.Tree) { t.Nodes[1].Stat.Owner = 1 },
	} {
		if Good(with(change)) {
			t.Errorf("good: %s", what)
		}
	}
	alone := New()
	alone.Sessions, alone.Nodes[0].Stat.Owner = []int{1}, 1
	if Good(alone) {
		t.Errorf("good: a root alone that is owned")
	}
	if Good(full(api.MaxNodes + 1)) {
		t.Errorf("good: a node too many")
	}
	for _, nodes := range [][]api.Node{
		nil,
		{{}},
		{{Stat: api.Stat{Kids: 1}}},
		{{Stat: api.Stat{Kids: 1}}, {Path: "/"}},
		{{Stat: api.Stat{Kids: 2}}, {Path: "/"}},
		{{Path: "/a"}},
		{{Path: "/"}, {Path: "x"}},
		{{Path: "/", Stat: api.Stat{Kids: 1}}, {Path: "x"}},
	} {
		if a := (api.Tree{Nodes: nodes, Sessions: []int{1}}); Good(a) {
			t.Errorf("good: %v", a)
		}
	}
}

// P6.3: each number of a Stat at its bounds, of the root, a node with children, one without, and one with an owner.
func TestGoodStat(t *testing.T) {
	for _, at := range []int{0, 4, 2, 5, 7} {
		s := base().Nodes[at].Stat
		for _, n := range []int{math.MinInt, -1 << 62, -most, -1, 0, 1, 2, 3, 4, 5, 9, 10, 11, 14, 15, 16, 19, 20, 21, most - 1, most, most + 1, 1 << 32, 1<<32 + 1, 1<<32 + 4, top, top + 1, math.MaxInt} {
			for _, x := range []struct {
				field string
				to    *int
				want  bool
			}{
				{"Czxid", &s.Czxid, 0 <= n && n <= s.Mzxid && n <= s.Pzxid},
				{"Mzxid", &s.Mzxid, s.Czxid <= n && n <= 20},
				{"Pzxid", &s.Pzxid, s.Czxid <= n && n <= 20},
				{"Version", &s.Version, 0 <= n && n <= most},
				{"Cversion", &s.Cversion, 0 <= n && n <= most},
				{"Kids", &s.Kids, n == s.Kids},
				{"Owner", &s.Owner, n == 0 || at != 0 && s.Kids == 0 && slices.Contains([]int{1, 4, 9, most}, n)},
			} {
				was := *x.to
				*x.to = n
				if got := Good(with(func(t *api.Tree) { t.Nodes[at].Stat = s })); got != x.want {
					t.Errorf("Good with %s %d of node %d: %t", x.field, n, at, got)
				}
				*x.to = was
			}
		}
	}
}

// goodByWords is the promise, word by word, by another hand.
func goodByWords(t api.Tree) bool {
	where := map[string]int{}
	ok := 0 <= t.Zxid && t.Zxid <= top && 1 <= len(t.Nodes) && len(t.Nodes) <= 400
	for i, n := range t.Nodes {
		if _, twice := where[n.Path]; twice || (n.Path == "/") != (i == 0) || !path.Good(n.Path) || i > 0 && t.Nodes[i-1].Path > n.Path {
			return false
		}
		where[n.Path] = i
		ok = ok && len(n.Data) <= 256
	}
	children := make([]int, len(t.Nodes))
	for i := 1; i < len(t.Nodes); i++ {
		at, there := where[above(t.Nodes[i].Path)]
		if !there {
			return false
		}
		children[at]++
	}
	for i, s := range t.Sessions {
		ok = ok && s >= 1 && s <= most && (i == 0 || t.Sessions[i-1] < s)
	}
	for i, n := range t.Nodes {
		s := n.Stat
		ok = ok && 0 <= s.Czxid && s.Czxid <= s.Mzxid && s.Czxid <= s.Pzxid && s.Mzxid <= t.Zxid && s.Pzxid <= t.Zxid
		ok = ok && 0 <= s.Version && s.Version <= most && 0 <= s.Cversion && s.Cversion <= most && s.Kids == children[i]
		ok = ok && (s.Owner == 0 || i > 0 && children[i] == 0 && slices.Contains(t.Sessions, s.Owner))
	}
	return ok
}

// above is a path's parent, by another hand.
func above(p string) string {
	if at := strings.LastIndex(p, "/"); at > 0 {
		return p[:at]
	}
	return "/"
}

// damage changes a thing of a tree by chance; it may be good still.
func damage(r *rand.Rand, t *api.Tree) {
	at := r.Intn(len(t.Nodes))
	n := &t.Nodes[at]
	numbers := []*int{&n.Stat.Czxid, &n.Stat.Mzxid, &n.Stat.Pzxid, &n.Stat.Version, &n.Stat.Cversion, &n.Stat.Owner, &n.Stat.Kids, &t.Zxid}
	switch r.Intn(6) {
	case 0, 1, 2:
		*numbers[r.Intn(len(numbers))] += r.Intn(5) - 2
	case 3:
		n.Path = []string{"/", "/a", "/a-b", "/a/b", "/a/e", "/b", "/b/c", "", "/z/z"}[r.Intn(9)]
	case 4:
		if len(t.Sessions) > 0 {
			t.Sessions[r.Intn(len(t.Sessions))] += r.Intn(3) - 1
		}
	case 5:
		if len(t.Nodes) > 1 {
			t.Nodes = slices.Delete(t.Nodes, at, at+1)
			t.Nodes[0].Stat.Kids -= r.Intn(2)
		}
	}
}

// P6.3: trees that were damaged by chance, against the promise by another hand; good ones and others come up.
func TestGoodByWords(t *testing.T) {
	r, seen := rand.New(rand.NewSource(6)), [2]int{}
	for range 20000 {
		a := base()
		for range 1 + r.Intn(2) {
			damage(r, &a)
		}
		want := goodByWords(a)
		if Good(a) != want {
			t.Fatalf("Good(%v): %t", a, !want)
		}
		if want {
			seen[1]++
		} else {
			seen[0]++
		}
	}
	if min(seen[0], seen[1]) < 1000 {
		t.Errorf("too few of a kind: %d", seen)
	}
}

// P6.4: whatever the transaction, a tree that is not good is told first.
func TestApplyBadTree(t *testing.T) {
	for what, a := range bads() {
		for _, x := range []api.Txn{{}, {Op: 9}, {Zxid: 30, Op: 1, Session: 7}, {Zxid: 30, Op: 2, Session: 9}, {Zxid: -1, Op: 3, Session: 4, Path: "/b"}, {Zxid: 1, Op: 4, Session: 4, Path: "/z"}} {
			refused(t, what, a, x, api.ErrRange)
		}
	}
}

// P6.4: Good's error of chapter 3, ahead of all others.
func TestApplyBadTxn(t *testing.T) {
	long := strings.Repeat("d", api.MaxData+1)
	for _, x := range []struct {
		txn  api.Txn
		want api.Errno
	}{
		{api.Txn{}, api.ErrKind},
		{api.Txn{Zxid: 30, Op: 0, Session: 4}, api.ErrKind},
		{api.Txn{Zxid: 30, Op: 6, Session: 4}, api.ErrKind},
		{api.Txn{Zxid: 30, Op: -1}, api.ErrKind},
		{api.Txn{Zxid: -1, Op: 1, Session: 7}, api.ErrRange},
		{api.Txn{Zxid: top + 1, Op: 1, Session: 7}, api.ErrRange},
		{api.Txn{Zxid: 1, Op: 1}, api.ErrRange},
		{api.Txn{Zxid: 30, Op: 2, Session: most + 1}, api.ErrRange},
		{api.Txn{Zxid: 30, Op: 5, Session: 4, Path: "/a", Version: -1}, api.ErrRange},
		{api.Txn{Zxid: 30, Op: 3, Session: 4, Path: "/b", Owner: -1}, api.ErrRange},
		{api.Txn{Zxid: 1, Op: 5, Session: 7, Path: "/b", Data: long}, api.ErrLong},
		{api.Txn{Zxid: 1, Op: 3, Session: 7, Path: "/"}, api.ErrForm},
		{api.Txn{Zxid: 30, Op: 4, Session: 4, Path: "/"}, api.ErrForm},
		{api.Txn{Zxid: 30, Op: 3, Session: 4, Path: "b"}, api.ErrForm},
		{api.Txn{Zxid: 30, Op: 5, Session: 4, Path: "/a/", Version: 2}, api.ErrForm},
		{api.Txn{Zxid: 30, Op: 1, Session: 4, Path: "/a"}, api.ErrForm},
		{api.Txn{Zxid: 30, Op: 2, Session: 7, Owner: 7}, api.ErrForm},
	} {
		refused(t, "Good", base(), x.txn, x.want)
	}
}

// P6.4: the numbers about the tree's own; order ahead of sessions, sessions ahead of nodes.
func TestApplyOrder(t *testing.T) {
	for _, z := range []int{0, 1, 19, 20} {
		for _, x := range []api.Txn{
			{Op: api.OpOpen, Session: 7},
			{Op: api.OpOpen, Session: 4},
			{Op: api.OpClose, Session: 4},
			{Op: api.OpClose, Session: 7},
			{Op: api.OpCreate, Session: 7, Path: "/a"},
			{Op: api.OpDelete, Session: 4, Path: "/a"},
			{Op: api.OpSet, Session: 4, Path: "/a", Version: 2},
		} {
			x.Zxid = z
			refused(t, "not above", base(), x, api.ErrOrder)
		}
	}
	for _, z := range []int{21, 22, 1 << 31, top} {
		want := with(func(t *api.Tree) { t.Zxid = z; t.Sessions = []int{1, 4, 7, 9, most} })
		applied(t, "above", base(), api.Txn{Zxid: z, Op: api.OpOpen, Session: 7}, want)
	}
	refused(t, "a new tree", New(), api.Txn{Op: api.OpOpen, Session: 1}, api.ErrOrder)
	last := with(func(t *api.Tree) { t.Zxid = top })
	refused(t, "the last number", last, api.Txn{Zxid: top, Op: api.OpOpen, Session: 7}, api.ErrOrder)
}

// P6.4: a session that is open, or isn't, ahead of what the nodes say.
func TestApplySession(t *testing.T) {
	for _, s := range []int{1, 4, 9, most} {
		refused(t, "open", base(), api.Txn{Zxid: 21, Op: api.OpOpen, Session: s}, api.ErrTwice)
	}
	for _, s := range []int{2, 3, 5, 8, 10, most - 1} {
		for _, x := range []api.Txn{
			{Op: api.OpClose},
			{Op: api.OpCreate, Path: "/b"},
			{Op: api.OpCreate, Path: "/b", Owner: s},
			{Op: api.OpCreate, Path: "/a"},
			{Op: api.OpCreate, Path: "/b/b"},
			{Op: api.OpCreate, Path: "/z/b"},
			{Op: api.OpDelete, Path: "/a-b"},
			{Op: api.OpDelete, Path: "/a"},
			{Op: api.OpDelete, Path: "/b"},
			{Op: api.OpSet, Path: "/a", Version: 2},
			{Op: api.OpSet, Path: "/a", Version: 7},
			{Op: api.OpSet, Path: "/b", Version: 1},
		} {
			x.Zxid, x.Session = 21, s
			refused(t, "not open", base(), x, api.ErrSession)
		}
	}
}

// P6.5: OpOpen at every place of the list.
func TestOpenSession(t *testing.T) {
	for s, list := range map[int][]int{2: {1, 2, 4, 9, most}, 5: {1, 4, 5, 9, most}, most - 1: {1, 4, 9, most - 1, most}} {
		want := with(func(t *api.Tree) { t.Zxid, t.Sessions = 30, list })
		applied(t, "open", base(), api.Txn{Zxid: 30, Op: api.OpOpen, Session: s}, want)
	}
	for _, s := range []int{1, 7, most} {
		want := New()
		want.Zxid, want.Sessions = 1, []int{s}
		applied(t, "the first", New(), api.Txn{Zxid: 1, Op: api.OpOpen, Session: s}, want)
	}
	want := with(func(t *api.Tree) { t.Zxid, t.Sessions = 30, []int{1, 4, 9, most} })
	applied(t, "the last", with(func(t *api.Tree) { t.Sessions = t.Sessions[:3] }), api.Txn{Zxid: 30, Op: api.OpOpen, Session: most}, want)
}

// create is the base tree with a new node at a place, whose parent is at another one; stats are told by hand.
func create(at int, n api.Node, above int, parent api.Stat) api.Tree {
	return with(func(t *api.Tree) {
		t.Zxid = n.Stat.Czxid
		t.Nodes[above].Stat = parent
		t.Nodes = slices.Insert(t.Nodes, at, n)
	})
}

// P6.5: OpCreate below the root and deeper, first and last, with an owner and without.
func TestCreate(t *testing.T) {
	applied(t, "below the root", base(), api.Txn{Zxid: 30, Op: api.OpCreate, Session: 4, Path: "/b", Data: odds},
		create(7, api.Node{Path: "/b", Data: odds, Stat: api.Stat{Czxid: 30, Mzxid: 30, Pzxid: 30}}, 0,
			api.Stat{Mzxid: 3, Pzxid: 30, Version: 2, Cversion: 6, Kids: 4}), made("/b"), kids("/"))
	applied(t, "an owner", base(), api.Txn{Zxid: 21, Op: api.OpCreate, Session: 9, Path: "/a/c/a", Owner: 9},
		create(5, api.Node{Path: "/a/c/a", Stat: api.Stat{Czxid: 21, Mzxid: 21, Pzxid: 21, Owner: 9}}, 4,
			api.Stat{Czxid: 11, Mzxid: 11, Pzxid: 21, Cversion: 3, Kids: 2}), made("/a/c/a"), kids("/a/c"))
	applied(t, "the first child", base(), api.Txn{Zxid: top, Op: api.OpCreate, Session: 1, Path: "/a-b/0", Data: "x"},
		create(3, api.Node{Path: "/a-b/0", Data: "x", Stat: api.Stat{Czxid: top, Mzxid: top, Pzxid: top}}, 2,
			api.Stat{Czxid: 5, Mzxid: 5, Pzxid: top, Cversion: 1, Kids: 1}), made("/a-b/0"), kids("/a-b"))
	applied(t, "the last node", base(), api.Txn{Zxid: 30, Op: api.OpCreate, Session: 4, Path: "/zz"},
		create(8, api.Node{Path: "/zz", Stat: api.Stat{Czxid: 30, Mzxid: 30, Pzxid: 30}}, 0,
			api.Stat{Mzxid: 3, Pzxid: 30, Version: 2, Cversion: 6, Kids: 4}), made("/zz"), kids("/"))
}

// P6.5: paths and data of the greatest lengths.
func TestCreateLongest(t *testing.T) {
	step := "/" + strings.Repeat("s", api.MaxName-1)
	var paths []string
	for n := range api.MaxPath / len(step) {
		paths = append(paths, strings.Repeat(step, n+1))
	}
	a := grown(t, paths...)
	deepest := paths[len(paths)-1]
	a, _, e := Apply(a, api.Txn{Zxid: 99, Op: api.OpSet, Session: 1, Path: deepest, Data: strings.Repeat("d", api.MaxData), Version: 1})
	if n, _ := Get(a, deepest); e != api.OK || len(n.Data) != api.MaxData || len(n.Path) != api.MaxPath {
		t.Errorf("%v, %d", n, e)
	}
}

// P6.5: OpCreate's errors, each alone and with those that the chapter names later.
func TestCreateErrors(t *testing.T) {
	tree := with(func(t *api.Tree) { t.Sessions = []int{1, 4, 7, 9} })
	for _, x := range []struct {
		path  string
		owner int
		want  api.Errno
	}{
		{"/a", 0, api.ErrTwice},
		{"/a/b", 0, api.ErrTwice},
		{"/a/c/b", 7, api.ErrTwice},
		{"/b/c", 0, api.ErrNone},
		{"/a/c/b/a/b", 0, api.ErrNone},
		{"/a/a/a", 7, api.ErrNone},
		{"/a/b/a", 0, api.ErrOwned},
		{"/a/b/a", 4, api.ErrOwned},
		{"/a/d/a", 7, api.ErrOwned},
		{"/z/0", 0, api.ErrOwned},
		{"/b", 7, api.ErrSession},
		{"/b", 1, api.ErrSession},
		{"/b", 5, api.ErrSession},
		{"/b", most, api.ErrSession},
	} {
		refused(t, "OpCreate", tree, api.Txn{Zxid: 30, Op: api.OpCreate, Session: 4, Path: x.path, Owner: x.owner}, x.want)
	}
}

// P6.5: a full tree, and those errors that come ahead of that one.
func TestCreateFull(t *testing.T) {
	x := api.Txn{Zxid: 30, Op: api.OpCreate, Session: 1, Path: "/b"}
	a, _, e := Apply(full(api.MaxNodes-1), x)
	if e != api.OK || len(a.Nodes) != api.MaxNodes || !Good(a) {
		t.Errorf("the last node: %d nodes, %d", len(a.Nodes), e)
	}
	refused(t, "a node too many", full(api.MaxNodes), x, api.ErrFull)
	owned := full(api.MaxNodes)
	owned.Nodes[1].Stat.Owner = 1
	for _, y := range []struct {
		path  string
		owner int
		want  api.Errno
	}{
		{"/n0000", 0, api.ErrTwice},
		{"/b/c", 0, api.ErrNone},
		{"/n0000/a", 0, api.ErrOwned},
		{"/b", 2, api.ErrSession},
		{"/n0001/a", 1, api.ErrFull},
	} {
		refused(t, "a full tree", owned, api.Txn{Zxid: 30, Op: api.OpCreate, Session: 1, Path: y.path, Owner: y.owner}, y.want)
	}
	owned.Nodes[0].Stat.Cversion = most
	refused(t, "full in both ways", owned, x, api.ErrFull)
}

// remove is the base tree without the node at a place, whose parent is at another one.
func remove(z, at, above int, parent api.Stat) api.Tree {
	return with(func(t *api.Tree) {
		t.Zxid = z
		t.Nodes[above].Stat = parent
		t.Nodes = slices.Delete(t.Nodes, at, at+1)
	})
}

// P6.5: OpDelete of nodes with an owner and without, by whatever session.
func TestDelete(t *testing.T) {
	applied(t, "below the root", base(), api.Txn{Zxid: 30, Op: api.OpDelete, Session: 9, Path: "/a-b"},
		remove(30, 2, 0, api.Stat{Mzxid: 3, Pzxid: 30, Version: 2, Cversion: 6, Kids: 2}), gone("/a-b"), kids("/"))
	applied(t, "another's", base(), api.Txn{Zxid: 21, Op: api.OpDelete, Session: 9, Path: "/a/c/b"},
		remove(21, 5, 4, api.Stat{Czxid: 11, Mzxid: 11, Pzxid: 21, Cversion: 3}), gone("/a/c/b"), kids("/a/c"))
	applied(t, "the last node", base(), api.Txn{Zxid: top, Op: api.OpDelete, Session: 4, Path: "/z"},
		remove(top, 7, 0, api.Stat{Mzxid: 3, Pzxid: top, Version: 2, Cversion: 6, Kids: 2}), gone("/z"), kids("/"))
}

// P6.5: OpDelete's errors.
func TestDeleteErrors(t *testing.T) {
	for p, want := range map[string]api.Errno{
		"/b": api.ErrNone, "/a/b/c": api.ErrNone, "/a/a": api.ErrNone, "/zz": api.ErrNone, "/-": api.ErrNone,
		"/a": api.ErrKids, "/a/c": api.ErrKids,
	} {
		refused(t, "OpDelete", base(), api.Txn{Zxid: 30, Op: api.OpDelete, Session: 4, Path: p}, want)
	}
}

// P6.5: OpSet of the root, of a node with children, and of one with an owner, by whatever session.
func TestSet(t *testing.T) {
	for at, version := range map[int]int{0: 3, 1: 2, 2: 1, 5: 4, 7: 1} {
		p := base().Nodes[at].Path
		for _, text := range []string{"", odds, strings.Repeat("d", api.MaxData)} {
			want := with(func(t *api.Tree) {
				t.Zxid = 30
				t.Nodes[at].Data, t.Nodes[at].Stat.Version, t.Nodes[at].Stat.Mzxid = text, version, 30
			})
			applied(t, "OpSet", base(), api.Txn{Zxid: 30, Op: api.OpSet, Session: 1, Path: p, Data: text, Version: version}, want, data(p))
		}
	}
}

// P6.5: OpSet's errors; the last version of all is there, and none behind it.
func TestSetErrors(t *testing.T) {
	for _, p := range []string{"/b", "/a/b/c", "/zz", "/a/a"} {
		refused(t, "no node", base(), api.Txn{Zxid: 30, Op: api.OpSet, Session: 4, Path: p, Version: 1}, api.ErrNone)
	}
	for _, n := range []int{0, 1, 3, 4, most} {
		refused(t, "a version", base(), api.Txn{Zxid: 30, Op: api.OpSet, Session: 4, Path: "/a", Version: n}, api.ErrVersion)
	}
	refused(t, "version 0", base(), api.Txn{Zxid: 30, Op: api.OpSet, Session: 4, Path: "/a-b"}, api.ErrVersion)
	old := with(func(t *api.Tree) { t.Nodes[2].Stat.Version = most - 1 })
	x := api.Txn{Zxid: 30, Op: api.OpSet, Session: 4, Path: "/a-b", Version: most}
	a, _, e := Apply(old, x)
	if e != api.OK || a.Nodes[2].Stat.Version != most {
		t.Errorf("the last version: %v, %d", a, e)
	}
	for _, n := range []int{0, 1, most - 1, most} {
		x.Zxid, x.Version = 31, n
		refused(t, "behind the last version", a, x, api.ErrVersion)
	}
	x.Version = most + 1
	refused(t, "behind all versions", a, x, api.ErrRange)
}

// P6.5: OpClose takes a session's nodes alone, by path, each with its parent's event; a parent of two changes twice.
func TestClose(t *testing.T) {
	applied(t, "nodes", base(), api.Txn{Zxid: 30, Op: api.OpClose, Session: 4}, api.Tree{
		Zxid: 30,
		Nodes: []api.Node{
			{Path: "/", Data: "r", Stat: api.Stat{Mzxid: 3, Pzxid: 30, Version: 2, Cversion: 6, Kids: 2}},
			{Path: "/a", Data: odds, Stat: api.Stat{Czxid: 2, Mzxid: 4, Pzxid: 30, Version: 1, Cversion: 8, Kids: 2}},
			{Path: "/a-b", Stat: api.Stat{Czxid: 5, Mzxid: 5, Pzxid: 5}},
			{Path: "/a/c", Data: "c", Stat: api.Stat{Czxid: 11, Mzxid: 11, Pzxid: 30, Cversion: 3}},
			{Path: "/a/d", Stat: api.Stat{Czxid: 12, Mzxid: 12, Pzxid: 12, Owner: 9}},
		},
		Sessions: []int{1, 9, most},
	}, gone("/a/b"), kids("/a"), gone("/a/c/b"), kids("/a/c"), gone("/z"), kids("/"))
	both := with(func(t *api.Tree) { t.Nodes[6].Stat.Owner = 4; t.Sessions = []int{4} })
	a, l, e := Apply(both, api.Txn{Zxid: 30, Op: api.OpClose, Session: 4})
	n, _ := Get(a, "/a")
	want := []api.Event{gone("/a/b"), kids("/a"), gone("/a/c/b"), kids("/a/c"), gone("/a/d"), kids("/a"), gone("/z"), kids("/")}
	if e != api.OK || !slices.Equal(l, want) || n.Stat.Cversion != 9 || n.Stat.Kids != 1 || len(a.Sessions) != 0 {
		t.Errorf("two of a parent: %v, %v, %d", a, l, e)
	}
	for s, rest := range map[int][]int{1: {4, 9, most}, most: {1, 4, 9}} {
		applied(t, "no nodes", base(), api.Txn{Zxid: 30, Op: api.OpClose, Session: s}, with(func(t *api.Tree) { t.Zxid, t.Sessions = 30, rest }))
	}
}

// P6.6: the last Cversion of a parent is there; a change behind it is refused, behind all other errors.
func TestFull(t *testing.T) {
	create := api.Txn{Zxid: 30, Op: api.OpCreate, Session: 4, Path: "/a/e"}
	remove := api.Txn{Zxid: 30, Op: api.OpDelete, Session: 4, Path: "/a/d"}
	for _, x := range []api.Txn{create, remove, {Zxid: 30, Op: api.OpClose, Session: 9}, {Zxid: 30, Op: api.OpClose, Session: 4}} {
		refused(t, "no room", with(func(t *api.Tree) { t.Nodes[1].Stat.Cversion = most }), x, api.ErrFull)
		a, _, e := Apply(with(func(t *api.Tree) { t.Nodes[1].Stat.Cversion = most - 1 }), x)
		if n, _ := Get(a, "/a"); e != api.OK || n.Stat.Cversion != most || !Good(a) {
			t.Errorf("room for one: %v, %d", a, e)
		}
	}
	worn := with(func(t *api.Tree) {
		for i := range t.Nodes {
			t.Nodes[i].Stat.Cversion = most
		}
	})
	for _, x := range []struct {
		txn  api.Txn
		want api.Errno
	}{
		{api.Txn{Op: api.OpCreate, Path: "/a"}, api.ErrTwice},
		{api.Txn{Op: api.OpCreate, Path: "/b/c"}, api.ErrNone},
		{api.Txn{Op: api.OpCreate, Path: "/z/c"}, api.ErrOwned},
		{api.Txn{Op: api.OpCreate, Path: "/b", Owner: 9}, api.ErrSession},
		{api.Txn{Op: api.OpDelete, Path: "/b"}, api.ErrNone},
		{api.Txn{Op: api.OpDelete, Path: "/a"}, api.ErrKids},
		{api.Txn{Op: api.OpDelete, Path: "/z"}, api.ErrFull},
		{api.Txn{Op: api.OpClose}, api.ErrFull},
		{api.Txn{Op: api.OpSet, Path: "/a", Version: 1}, api.ErrVersion},
	} {
		x.txn.Zxid, x.txn.Session = 30, 4
		refused(t, "worn", worn, x.txn, x.want)
	}
	for _, x := range []api.Txn{{Op: api.OpSet, Session: 4, Path: "/a", Version: 2}, {Op: api.OpOpen, Session: 5}, {Op: api.OpClose, Session: 1}} {
		x.Zxid = 30
		if _, _, e := Apply(worn, x); e != api.OK {
			t.Errorf("no child changes: %v: %d", x, e)
		}
	}
}

// P6.6: a session that closes changes a parent as often as it has nodes there.
func TestFullByMany(t *testing.T) {
	for room := range 5 {
		a := with(func(t *api.Tree) {
			t.Nodes[4].Stat.Owner, t.Nodes[4].Stat.Kids = 4, 0
			t.Nodes[6].Stat.Owner = 4
			t.Nodes[1].Stat.Cversion = most - room
			t.Nodes = slices.Delete(t.Nodes, 5, 6)
		})
		x := api.Txn{Zxid: 30, Op: api.OpClose, Session: 4}
		if room < 3 {
			refused(t, "three of a parent", a, x, api.ErrFull)
			continue
		}
		b, l, e := Apply(a, x)
		if n, _ := Get(b, "/a"); e != api.OK || len(l) != 8 || n.Stat.Cversion != most-room+3 || n.Stat.Kids != 0 {
			t.Errorf("three of a parent, room for %d: %v, %d", room, b, e)
		}
	}
}

// model is a tree by another hand: nodes in a map, sessions in another one.
type model struct {
	zxid     int
	nodes    map[string]api.Node
	sessions map[int]bool
}

func (m model) copied() model {
	return model{m.zxid, maps.Clone(m.nodes), maps.Clone(m.sessions)}
}

func (m model) tree() api.Tree {
	t := api.Tree{Zxid: m.zxid, Sessions: slices.Sorted(maps.Keys(m.sessions))}
	for _, p := range slices.Sorted(maps.Keys(m.nodes)) {
		t.Nodes = append(t.Nodes, m.nodes[p])
	}
	return t
}

// parent changes what is above a path, by so many children.
func (m model) parent(p string, more int) []api.Event {
	n := m.nodes[above(p)]
	n.Stat.Kids += more
	n.Stat.Cversion++
	n.Stat.Pzxid = m.zxid
	m.nodes[above(p)] = n
	return []api.Event{kids(above(p))}
}

func (m model) delete(p string) []api.Event {
	delete(m.nodes, p)
	return append([]api.Event{gone(p)}, m.parent(p, -1)...)
}

func (m model) code(x api.Txn) api.Errno {
	n, there := m.nodes[x.Path]
	up, held := m.nodes[above(x.Path)]
	for _, c := range []struct {
		wrong bool
		code  api.Errno
	}{
		{wire.Good(x) != api.OK, wire.Good(x)},
		{x.Zxid <= m.zxid, api.ErrOrder},
		{x.Op == 1 && m.sessions[x.Session], api.ErrTwice},
		{x.Op != 1 && !m.sessions[x.Session], api.ErrSession},
		{x.Op == 3 && there, api.ErrTwice},
		{x.Op == 3 && !held, api.ErrNone},
		{x.Op == 3 && up.Stat.Owner != 0, api.ErrOwned},
		{x.Op == 3 && x.Owner != 0 && x.Owner != x.Session, api.ErrSession},
		{x.Op == 3 && len(m.nodes) == 400, api.ErrFull},
		{x.Op == 4 && !there, api.ErrNone},
		{x.Op == 4 && n.Stat.Kids > 0, api.ErrKids},
		{x.Op == 5 && !there, api.ErrNone},
		{x.Op == 5 && n.Stat.Version+1 != x.Version, api.ErrVersion},
	} {
		if c.wrong {
			return c.code
		}
	}
	return api.OK
}

func (m model) apply(x api.Txn) (model, []api.Event, api.Errno) {
	if e := m.code(x); e != api.OK {
		return m, nil, e
	}
	m, l := m.copied(), []api.Event(nil)
	m.zxid = x.Zxid
	switch x.Op {
	case 1:
		m.sessions[x.Session] = true
	case 2:
		delete(m.sessions, x.Session)
		for _, n := range m.tree().Nodes {
			if n.Stat.Owner == x.Session {
				l = append(l, m.delete(n.Path)...)
			}
		}
	case 3:
		m.nodes[x.Path] = api.Node{Path: x.Path, Data: x.Data, Stat: api.Stat{Czxid: x.Zxid, Mzxid: x.Zxid, Pzxid: x.Zxid, Owner: x.Owner}}
		l = append([]api.Event{made(x.Path)}, m.parent(x.Path, 1)...)
	case 4:
		l = m.delete(x.Path)
	case 5:
		n := m.nodes[x.Path]
		n.Data, n.Stat.Version, n.Stat.Mzxid = x.Data, x.Version, x.Zxid
		m.nodes[x.Path] = n
		l = []api.Event{data(x.Path)}
	}
	for _, n := range m.nodes {
		if n.Stat.Cversion > most {
			return m, nil, api.ErrFull
		}
	}
	return m, l, api.OK
}

// chance is a transaction that may fit a tree, or not quite.
func chance(r *rand.Rand, t api.Tree) api.Txn {
	p := ""
	for range 1 + r.Intn(3) {
		p += []string{"/a", "/b", "/a-b", "/0"}[r.Intn(4)]
	}
	x := api.Txn{Zxid: t.Zxid + r.Intn(5), Op: 1 + r.Intn(5), Session: 1 + r.Intn(4)}
	switch x.Op {
	case 3:
		x.Path, x.Data, x.Owner = p, strings.Repeat("d", r.Intn(3)), []int{0, 0, x.Session, 2}[r.Intn(4)]
	case 4:
		x.Path = p
	case 5:
		n, _ := Get(t, p)
		x.Path, x.Data, x.Version = p, fmt.Sprint(x.Zxid), n.Stat.Version+r.Intn(5)/4+[]int{0, 1, 1, 1}[r.Intn(4)]
	case 2:
		if r.Intn(3) > 0 { // so that sessions stay open for a while
			x.Op, x.Path = 3, p
			x.Owner = x.Session
		}
	}
	return x
}

// P6.2 to P6.6: long ways of transactions, against a tree by another hand.
func TestWays(t *testing.T) {
	codes := map[api.Errno]int{}
	for seed := range 80 {
		r := rand.New(rand.NewSource(int64(seed)))
		m, a := model{nodes: map[string]api.Node{"/": {Path: "/"}}, sessions: map[int]bool{}}, New()
		if seed%4 == 0 {
			a.Nodes[0].Stat.Cversion = most - 6
			m.nodes["/"] = a.Nodes[0]
		}
		for i := range 250 {
			x := chance(r, a)
			n, want, code := m.apply(x)
			b, l, e := Apply(a, x)
			codes[e]++
			if code != e || !slices.Equal(l, want) {
				t.Fatalf("way %d, step %d: %v: %v, %d; asked for %v, %d", seed, i, x, l, e, want, code)
			}
			if e != api.OK {
				refused(t, "a second time", a, x, e)
				continue
			}
			m, a = n, b
			if !alike(a, m.tree()) || !Good(a) || !goodByWords(a) {
				t.Fatalf("way %d, step %d: %v: %v; asked for %v", seed, i, x, a, m.tree())
			}
		}
		for p, n := range m.nodes {
			l, e := Kids(a, p)
			for _, step := range l {
				if _, there := m.nodes[strings.TrimSuffix(p, "/")+"/"+step]; !there {
					t.Errorf("way %d: Kids of %s: %q", seed, p, l)
				}
			}
			if e != api.OK || len(l) != n.Stat.Kids {
				t.Errorf("way %d: Kids of %s: %q, %d", seed, p, l, e)
			}
		}
	}
	for _, e := range []api.Errno{api.OK, api.ErrOrder, api.ErrTwice, api.ErrSession, api.ErrNone, api.ErrOwned, api.ErrKids, api.ErrVersion, api.ErrFull} {
		if codes[e] < 20 {
			t.Errorf("%d came up %d times", e, codes[e])
		}
	}
}

// roomy is the base tree with spare room behind its lists, and all of that room.
func roomy() (api.Tree, api.Tree) {
	room := base()
	room.Nodes = append(room.Nodes, api.Node{Path: "/zz", Data: "spare"}, api.Node{Path: "room"})
	room.Sessions = append(room.Sessions, 77, 78)
	t := room
	t.Nodes, t.Sessions = t.Nodes[:8], t.Sessions[:4]
	return t, room
}

// scribble writes over a tree's lists, and over their spare room.
func scribble(t api.Tree) {
	for i := range t.Nodes[:cap(t.Nodes)] {
		t.Nodes[:cap(t.Nodes)][i] = api.Node{Path: "changed"}
	}
	for i := range t.Sessions[:cap(t.Sessions)] {
		t.Sessions[:cap(t.Sessions)][i] = -1
	}
}

// P6.4, P6.5: what is handed in is not changed, its spare room neither, and what comes out shares none of it.
func TestApart(t *testing.T) {
	for _, x := range []api.Txn{
		{Zxid: 30, Op: api.OpOpen, Session: 5},
		{Zxid: 30, Op: api.OpClose, Session: 4},
		{Zxid: 30, Op: api.OpClose, Session: 1},
		{Zxid: 30, Op: api.OpCreate, Session: 4, Path: "/a/a", Data: "x"},
		{Zxid: 30, Op: api.OpDelete, Session: 4, Path: "/a/b"},
		{Zxid: 30, Op: api.OpSet, Session: 4, Path: "/", Data: "x", Version: 3},
		{Zxid: 30, Op: api.OpSet, Session: 4, Path: "/", Data: "x", Version: 4},
	} {
		a, room := roomy()
		_, asItWas := roomy()
		b, l, e := Apply(a, x)
		if !reflect.DeepEqual(room, asItWas) {
			t.Errorf("%v: what was handed in is changed", x)
		}
		want, events := with(func(t *api.Tree) {
			t.Zxid, t.Nodes, t.Sessions = b.Zxid, slices.Clone(b.Nodes), slices.Clone(b.Sessions)
		}), slices.Clone(l)
		scribble(b)
		for i := range l[:cap(l)] {
			l[:cap(l)][i] = api.Event{Kind: 9, Path: "changed"}
		}
		if !reflect.DeepEqual(room, asItWas) {
			t.Errorf("%v: what comes out shares memory with what was handed in", x)
		}
		if c, m, f := Apply(a, x); !alike(c, want) || !slices.Equal(m, events) || f != e {
			t.Errorf("%v: a second time: %v, %v, %d", x, c, m, f)
		}
	}
}

// shares is whether two texts lie in the same memory.
func shares(a, b string) bool {
	return a != "" && b != "" && unsafe.StringData(a) == unsafe.StringData(b)
}

// P6.2, P6.4, P6.5: texts that come out are copies of those that were handed in.
func TestTextsApart(t *testing.T) {
	a := base()
	for i, n := range a.Nodes {
		if got, _ := Get(a, n.Path); shares(got.Path, a.Nodes[i].Path) || shares(got.Data, n.Data) {
			t.Errorf("Get of %s shares a text", n.Path)
		}
	}
	for _, x := range []api.Txn{
		{Zxid: 30, Op: api.OpCreate, Session: 4, Path: "/a/a", Data: strings.Repeat("x", 9)},
		{Zxid: 30, Op: api.OpSet, Session: 4, Path: "/a", Data: strings.Repeat("x", 9), Version: 2},
		{Zxid: 30, Op: api.OpDelete, Session: 4, Path: strings.Repeat("/z", 1)},
		{Zxid: 30, Op: api.OpClose, Session: 4},
	} {
		b, l, _ := Apply(a, x)
		texts := []string{x.Path, x.Data}
		for _, n := range a.Nodes {
			texts = append(texts, n.Path, n.Data)
		}
		for _, s := range texts {
			for _, n := range b.Nodes {
				if shares(n.Path, s) || shares(n.Data, s) {
					t.Errorf("%v: node %s shares %q", x, n.Path, s)
				}
			}
			for _, v := range l {
				if shares(v.Path, s) {
					t.Errorf("%v: event %v shares %q", x, v, s)
				}
			}
		}
	}
}

// P6.2, P6.3: these calls change nothing, and a list of children is the caller's.
func TestReadsApart(t *testing.T) {
	a, room := roomy()
	_, asItWas := roomy()
	for range 2 {
		l, e := Kids(a, "/a")
		if !slices.Equal(l, []string{"b", "c", "d"}) || e != api.OK {
			t.Errorf("Kids: %q, %d", l, e)
		}
		for i := range l[:cap(l)] {
			l[:cap(l)][i] = "changed"
		}
		if n, _ := Get(a, "/a"); n.Data != odds || !Open(a, 4) || !Good(a) || Open(a, 77) {
			t.Errorf("Get: %v", n)
		}
		if _, e := Get(a, "/zz"); e != api.ErrNone {
			t.Errorf("Get found what is in spare room: %d", e)
		}
	}
	if !reflect.DeepEqual(room, asItWas) {
		t.Errorf("what was handed in is changed")
	}
}

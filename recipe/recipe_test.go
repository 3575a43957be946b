package recipe

import (
	"fmt"
	"math"
	"math/rand"
	"regexp"
	"slices"
	"strings"
	"testing"
	"unsafe"

	"aviary/api"
	"aviary/path"
	"aviary/prep"
	"aviary/tree"
)

// long is a name whose steps in line are as long as a step may be.
var long = strings.Repeat("n", api.MaxName-10)

// grown is a good tree of these nodes beside the root. The numbers of a node's Stat are all different ones, and fall from node to node,
// so that a first one in line need not be the oldest; of those that have no children two in three are a session's.
func grown(t *testing.T, paths ...string) api.Tree {
	t.Helper()
	a := api.Tree{Zxid: 9000, Sessions: []int{7, 8}}
	for _, p := range append([]string{"/"}, paths...) {
		a.Nodes = append(a.Nodes, api.Node{Path: p})
	}
	slices.SortFunc(a.Nodes, func(a, b api.Node) int { return strings.Compare(a.Path, b.Path) })
	for i := range a.Nodes {
		n := &a.Nodes[i]
		for _, m := range a.Nodes {
			if dir, _, _ := path.Split(m.Path); dir == n.Path {
				n.Stat.Kids++
			}
		}
		first := 1 + 10*(len(a.Nodes)-i)
		n.Data = fmt.Sprint("data of ", n.Path)
		n.Stat.Czxid, n.Stat.Mzxid, n.Stat.Pzxid, n.Stat.Version, n.Stat.Cversion = first, first+1, first+2, first+3, first+4
		if n.Stat.Kids == 0 {
			n.Stat.Owner = []int{0, 7, 8}[i%3]
		}
	}
	if !tree.Good(a) {
		t.Fatalf("not good: %v", a)
	}
	return a
}

// lines is a good tree with several lines in one another's way.
func lines(t *testing.T) api.Tree {
	return grown(t,
		"/0000000003", "/0000000012", "/q0000000005", "/q0000000021", "/q9", "/qq0000000004", "/quite-other-", "/r",
		"/e",
		"/l", "/l-0000000001", "/l0000000001",
		"/l/0000000007", "/l/9999999999",
		"/l/q", "/l/q-0000000001", "/l/q-0000000001/q0000000009",
		"/l/q00000000001", "/l/q000000000", "/l/q0000000002", "/l/q0000000010", "/l/q0000000010/x", "/l/q000000001a", "/l/q00000_0011", "/l/q2147483648", "/l/q9999999999", "/l/qa000000001", "/l/qq0000000001", "/l/xq0000000001",
		"/l/z-0000000000", "/l/z-0000000001", "/l/z_0000000000",
		"/l/"+long+"0000000001", "/l/"+long+"0000000003", "/l/"+long+"n000000001",
	)
}

// lined holds Line to an answer.
func lined(t *testing.T, a api.Tree, dir, name string, want ...string) {
	t.Helper()
	if got, e := Line(a, dir, name); e != api.OK || !slices.Equal(got, want) {
		t.Errorf("Line of %q, %.50q: %q, %d; asked for %q", dir, name, got, e, want)
	}
}

// P13.1: the steps of each name, of nine, ten and eleven digits, with numbers that Serial never gives; never those of another name or node.
func TestLine(t *testing.T) {
	a := lines(t)
	lined(t, a, "/l", "q", "q0000000002", "q0000000010", "q2147483648", "q9999999999")
	lined(t, a, "/l", "q-", "q-0000000001")
	lined(t, a, "/l", "qq", "qq0000000001")
	lined(t, a, "/l", "xq", "xq0000000001")
	lined(t, a, "/l", "z-", "z-0000000000", "z-0000000001")
	lined(t, a, "/l", "z_", "z_0000000000")
	lined(t, a, "/l", "z")
	lined(t, a, "/l", "l")
	lined(t, a, "/l", "0")
	lined(t, a, "/l/q-0000000001", "q", "q0000000009")
	lined(t, a, "/l/q0000000010", "q")
	lined(t, a, "/l/q0000000010/x", "q")
	lined(t, a, "/", "q", "q0000000005", "q0000000021")
	lined(t, a, "/", "qq", "qq0000000004")
	lined(t, a, "/", "l", "l0000000001")
	lined(t, a, "/", "l-", "l-0000000001")
	lined(t, a, "/e", "q")
	lined(t, tree.New(), "/", "q")
}

// P13.1: a name may be empty: then ten digits are a step alone.
func TestLineWithoutName(t *testing.T) {
	a := lines(t)
	lined(t, a, "/l", "", "0000000007", "9999999999")
	lined(t, a, "/", "", "0000000003", "0000000012")
	lined(t, a, "/e", "")
	lined(t, tree.New(), "/", "")
}

// P13.1: a name of digits takes those of a step that it begins with; ten are left for the number.
func TestLineOfDigits(t *testing.T) {
	a := grown(t, "/10000000002", "/110000000002", "/1000000002", "/12000000002", "/20000000001", "/a10000000003")
	lined(t, a, "/", "1", "10000000002", "12000000002")
	lined(t, a, "/", "11", "110000000002")
	lined(t, a, "/", "", "1000000002")
	lined(t, a, "/", "a")
	lined(t, a, "/", "a1", "a10000000003")
	lined(t, a, "/", "2", "20000000001")
}

// P13.1: each byte that a step may have, at each place of a number.
func TestLineBytes(t *testing.T) {
	const letters = "abcdefghijklmnopqrstuvwxyz0123456789-_"
	for i := range 10 {
		for _, letter := range letters {
			number := []byte("1234567890")
			number[i] = byte(letter)
			step := "q" + string(number)
			a := grown(t, "/"+step)
			if '0' <= letter && letter <= '9' {
				lined(t, a, "/", "q", step)
			} else {
				lined(t, a, "/", "q")
			}
		}
	}
}

// P13.1: names that are as long as they may be in line, and as a step may be: such a one is no error, but nobody can stand in its line.
func TestLineLongNames(t *testing.T) {
	a := lines(t)
	lined(t, a, "/l", long, long+"0000000001", long+"0000000003")
	for n := len(long) + 1; n <= api.MaxName; n++ {
		lined(t, a, "/l", strings.Repeat("n", n))
	}
	lined(t, a, "/l", "q0000000002")
	lined(t, a, "/l", long+"0000000001")
	deep := strings.Repeat("/"+strings.Repeat("d", 36), 5)
	var paths []string
	for p := deep; p != "/"; p, _, _ = path.Split(p) {
		paths = append(paths, p)
	}
	last := deep + "/abcd0000000001"
	if len(last) != api.MaxPath {
		t.Fatalf("%d bytes", len(last))
	}
	lined(t, grown(t, append(paths, last)...), deep, "abcd", "abcd0000000001")
}

// badNames are neither empty nor steps.
func badNames() []string {
	return []string{"Q", "qQ", "/", "/q", "q/", "q/r", "q ", " ", "q.", ".", "é", "\xff", "\x00", "q\n", strings.Repeat("n", api.MaxName+1), strings.Repeat("n", 1<<20)}
}

// badDirs are texts that are no nodes of lines; not all of them are paths.
func badDirs() []string {
	return []string{"", "l", "//", "/l/", "/L", "/m", "/l/q0", "/l/q/q", "/e/e", "/r/q0000000001", " ", "\x00", "\xff", "/" + long, strings.Repeat("/a", 200), strings.Repeat("/", 1<<20)}
}

// P13.1: what is wrong with the node comes ahead of what is wrong with the name.
func TestLineErrors(t *testing.T) {
	a := lines(t)
	refused := func(dir, name string, want api.Errno) {
		t.Helper()
		if got, e := Line(a, dir, name); e != want || len(got) != 0 {
			t.Errorf("Line of %.50q, %.50q: %q, %d; asked for %d", dir, name, got, e, want)
		}
	}
	for _, dir := range badDirs() {
		for _, name := range append(badNames(), "", "q", long) {
			refused(dir, name, api.ErrNone)
		}
	}
	for _, name := range badNames() {
		refused("/", name, api.ErrForm)
		refused("/l", name, api.ErrForm)
		refused("/e", name, api.ErrForm)
	}
}

// P13.2: all fields, and the path below the root and below others.
func TestAsk(t *testing.T) {
	for _, x := range []struct {
		session         int
		dir, name, path string
	}{
		{3, "/l", "q", "/l/q"},
		{3, "/", "q", "/q"},
		{1, "/a/b/c", "n-", "/a/b/c/n-"},
		{api.MaxCount, "/l", "l", "/l/l"},
		{1, "/l", "", "/l/"},
		{1, "/", "", "/"},
		{0, "", "", "/"},
		{-1, "", "q", "/q"},
		{math.MinInt, "l", "q", "l/q"},
		{math.MaxInt, "//", "q", "///q"},
		{5, "/l/", "q", "/l//q"},
		{5, "/", "/", "//"},
		{5, "/", "/q", "//q"},
		{5, "/L", "q r", "/L/q r"},
		{5, "\x00", "\xff", "\x00/\xff"},
		{5, strings.Repeat("/a", 200), strings.Repeat("n", 100), strings.Repeat("/a", 200) + "/" + strings.Repeat("n", 100)},
	} {
		want := api.Request{Op: 3, Session: x.session, Path: x.path, Data: "", Version: -1, Flags: 3}
		if got := Ask(x.session, x.dir, x.name); got != want {
			t.Errorf("Ask of %d, %.50q, %.50q: %v; asked for %v", x.session, x.dir, x.name, got, want)
		}
	}
}

// P13.2, P13.1: what is asked for is made ready as a node in line, of the session, at the root and below.
func TestAskStandsInLine(t *testing.T) {
	a, _, _ := tree.Apply(tree.New(), api.Txn{Zxid: 1, Op: api.OpOpen, Session: 4})
	a, _, _ = tree.Apply(a, api.Txn{Zxid: 2, Op: api.OpCreate, Session: 4, Path: "/l"})
	for i, dir := range []string{"/", "/l"} {
		for _, name := range []string{"q", long} {
			x, e := prep.Prepare(a, a.Zxid+1, Ask(4, dir, name))
			if e != api.OK || x.Owner != 4 || x.Data != "" {
				t.Fatalf("%q, %q: %v, %d", dir, name, x, e)
			}
			a, _, _ = tree.Apply(a, x)
			if line, _ := Line(a, dir, name); len(line) != 1 {
				t.Errorf("%d, %q: %q", i, dir, line)
			}
		}
	}
}

// P13.3: the Owner and the Czxid of the first one in line, not of the oldest one, nor of the first child.
func TestHolder(t *testing.T) {
	a := lines(t)
	owners := map[int]int{}
	for _, x := range []struct{ dir, name, first string }{
		{"/l", "q", "/l/q0000000002"},
		{"/l", "q-", "/l/q-0000000001"},
		{"/l", "qq", "/l/qq0000000001"},
		{"/l", "xq", "/l/xq0000000001"},
		{"/l", "z-", "/l/z-0000000000"},
		{"/l", "z_", "/l/z_0000000000"},
		{"/l", "", "/l/0000000007"},
		{"/l", long, "/l/" + long + "0000000001"},
		{"/l/q-0000000001", "q", "/l/q-0000000001/q0000000009"},
		{"/", "q", "/q0000000005"},
		{"/", "qq", "/qq0000000004"},
		{"/", "l", "/l0000000001"},
		{"/", "", "/0000000003"},
	} {
		n, e := tree.Get(a, x.first)
		if e != api.OK || n.Stat.Czxid == 0 {
			t.Fatalf("%s: %v, %d", x.first, n, e)
		}
		owners[n.Stat.Owner]++
		if who, token, e := Holder(a, x.dir, x.name); who != n.Stat.Owner || token != n.Stat.Czxid || e != api.OK {
			t.Errorf("Holder of %q, %q: %d, %d, %d; asked for %v", x.dir, x.name, who, token, e, n)
		}
	}
	if owners[0] == 0 || owners[7] == 0 || owners[8] == 0 {
		t.Errorf("too few owners: %v", owners)
	}
}

// P13.3: numbers as great as they may be; a first one that nobody owns has a token all the same.
func TestHolderEdges(t *testing.T) {
	const top = 1<<62 - 1
	a := api.Tree{Zxid: top, Sessions: []int{api.MaxCount}, Nodes: []api.Node{
		{Path: "/", Stat: api.Stat{Kids: 2}},
		{Path: "/o0000000000", Stat: api.Stat{}},
		{Path: "/q0000000000", Stat: api.Stat{Czxid: top, Mzxid: top, Pzxid: top, Owner: api.MaxCount}},
	}}
	if !tree.Good(a) {
		t.Fatal("not good")
	}
	if who, token, e := Holder(a, "/", "q"); who != api.MaxCount || token != top || e != api.OK {
		t.Errorf("%d, %d, %d", who, token, e)
	}
	if who, token, e := Holder(a, "/", "o"); who != 0 || token != 0 || e != api.OK {
		t.Errorf("%d, %d, %d", who, token, e)
	}
	a.Nodes[1].Stat = api.Stat{Czxid: 5, Mzxid: 6, Pzxid: 7}
	if who, token, e := Holder(a, "/", "o"); who != 0 || token != 5 || e != api.OK {
		t.Errorf("%d, %d, %d", who, token, e)
	}
}

// P13.3: nobody in line is no error; Line's errors are Holder's.
func TestHolderOfNone(t *testing.T) {
	a := lines(t)
	held := func(dir, name string, want api.Errno) {
		t.Helper()
		if who, token, e := Holder(a, dir, name); who != 0 || token != 0 || e != want {
			t.Errorf("Holder of %.50q, %.50q: %d, %d, %d; asked for %d", dir, name, who, token, e, want)
		}
	}
	held("/l", "z", api.OK)
	held("/e", "q", api.OK)
	held("/e", "", api.OK)
	held("/l", strings.Repeat("n", api.MaxName), api.OK)
	for _, dir := range badDirs() {
		held(dir, "q", api.ErrNone)
		held(dir, "", api.ErrNone)
		held(dir, "Q", api.ErrNone)
	}
	for _, name := range badNames() {
		held("/l", name, api.ErrForm)
		held("/", name, api.ErrForm)
	}
}

// ahead holds Before to a step; the empty text: to none.
func ahead(t *testing.T, a api.Tree, dir, name, step, want string) {
	t.Helper()
	if got, ok := Before(a, dir, name, step); got != want || ok != (want != "") {
		t.Errorf("Before of %.50q, %.50q, %.50q: %q, %v; asked for %q", dir, name, step, got, ok, want)
	}
}

// P13.4: each one of a line has the one ahead of it, and the first one none.
func TestBefore(t *testing.T) {
	a := lines(t)
	ahead(t, a, "/l", "q", "q0000000002", "")
	ahead(t, a, "/l", "q", "q0000000010", "q0000000002")
	ahead(t, a, "/l", "q", "q2147483648", "q0000000010")
	ahead(t, a, "/l", "q", "q9999999999", "q2147483648")
	ahead(t, a, "/l", "z-", "z-0000000000", "")
	ahead(t, a, "/l", "z-", "z-0000000001", "z-0000000000")
	ahead(t, a, "/l", "", "0000000007", "")
	ahead(t, a, "/l", "", "9999999999", "0000000007")
	ahead(t, a, "/l", long, long+"0000000001", "")
	ahead(t, a, "/l", long, long+"0000000003", long+"0000000001")
	ahead(t, a, "/", "q", "q0000000021", "q0000000005")
	ahead(t, a, "/l", "qq", "qq0000000001", "")
}

// P13.4: steps that are not in line, though they would have a place there, or are children, or stand in another line.
func TestBeforeOfNone(t *testing.T) {
	a := lines(t)
	for _, step := range []string{
		"", "q", "q0000000000", "q0000000003", "q0000000011", "q9999999998", "q000000001a", "q00000000001", "q000000000", "q-0000000001", "qq0000000001",
		"z-0000000001", "0000000010", "9999999999", "/l/q0000000010", "/q0000000010", "q0000000010/x", "q0000000010 ", "Q0000000010", "q0000000021", "zzz", "\xff", strings.Repeat("z", 1<<20),
	} {
		ahead(t, a, "/l", "q", step, "")
	}
	for _, step := range []string{"", "q", "q0000000001"} {
		ahead(t, a, "/e", "q", step, "")
		ahead(t, a, "/l", "z", step, "")
		ahead(t, tree.New(), "/", "q", step, "")
	}
}

// P13.4: where Line has an error nothing is ahead.
func TestBeforeErrors(t *testing.T) {
	a := lines(t)
	for _, dir := range badDirs() {
		for _, step := range []string{"", "q0000000010", "q9999999999"} {
			ahead(t, a, dir, "q", step, "")
		}
	}
	for _, name := range badNames() {
		for _, step := range []string{"", name, name + "0000000001", "q0000000010", "q9999999999"} {
			ahead(t, a, "/l", name, step, "")
		}
	}
}

// P13.5: a token that is as new, newer, older; at all numbers.
func TestFence(t *testing.T) {
	numbers := []int{math.MinInt, math.MinInt + 1, -1 << 32, -2, -1, 0, 1, 2, 5, 6, 1 << 31, 1<<32 + 1, math.MaxInt - 1, math.MaxInt}
	for i, seen := range numbers {
		for j, token := range numbers {
			newest, taken := Fence(seen, token)
			if newest != numbers[max(i, j)] || taken != (j >= i) {
				t.Errorf("Fence of %d, %d: %d, %v", seen, token, newest, taken)
			}
		}
	}
}

// many is a good tree with so many children below a node, and two below one of them.
func many(t *testing.T, n int) api.Tree {
	paths := []string{"/b", "/b-"}
	for i := range n {
		paths = append(paths, fmt.Sprintf("/b/k%d", i))
	}
	if n > 0 {
		paths = append(paths, "/b/k0/x", "/b/k0/y")
	}
	return grown(t, paths...)
}

// P13.6: children are counted, whatever their names, and nothing above or below them.
func TestReady(t *testing.T) {
	for _, n := range []int{0, 1, 2, 3, api.MaxWant - 1, api.MaxWant, api.MaxWant + 1, 300} {
		a := many(t, n)
		for want := range api.MaxWant + 1 {
			if ok, e := Ready(a, "/b", want); ok != (n >= want) || e != api.OK {
				t.Errorf("Ready of %d, %d: %v, %d", n, want, ok, e)
			}
		}
	}
	a := many(t, 5)
	for dir, n := range map[string]int{"/": 2, "/b-": 0, "/b/k0": 2, "/b/k1": 0, "/b/k0/x": 0} {
		for want := range api.MaxWant + 1 {
			if ok, e := Ready(a, dir, want); ok != (n >= want) || e != api.OK {
				t.Errorf("Ready of %s, %d: %v, %d", dir, want, ok, e)
			}
		}
	}
	if ok, e := Ready(tree.New(), "/", 0); !ok || e != api.OK {
		t.Errorf("Ready of a new tree: %v, %d", ok, e)
	}
}

// P13.6: what is wrong with the number comes ahead of what is wrong with the node.
func TestReadyErrors(t *testing.T) {
	a := lines(t)
	for _, dir := range append(badDirs(), "/", "/l", "/e") {
		for _, want := range []int{math.MinInt, -1 << 32, -2, -1, api.MaxWant + 1, api.MaxWant + 2, 1<<32 + 1, math.MaxInt} {
			if ok, e := Ready(a, dir, want); ok || e != api.ErrRange {
				t.Errorf("Ready of %.50q, %d: %v, %d", dir, want, ok, e)
			}
		}
	}
	for _, dir := range badDirs() {
		for want := range api.MaxWant + 1 {
			if ok, e := Ready(a, dir, want); ok || e != api.ErrNone {
				t.Errorf("Ready of %.50q, %d: %v, %d", dir, want, ok, e)
			}
		}
	}
}

// P13.1 to P13.5: three stand in line for a lock; as sessions are closed the next ones hold it, with tokens that a fence takes.
func TestLock(t *testing.T) {
	a := tree.New()
	do := func(r api.Request) string {
		t.Helper()
		x, e := prep.Prepare(a, a.Zxid+1, r)
		if e != api.OK {
			t.Fatalf("%v: %d", r, e)
		}
		a, _, _ = tree.Apply(a, x)
		return x.Path
	}
	for _, session := range []int{1, 5, 3, 4} {
		do(api.Request{Op: api.OpOpen, Session: session})
	}
	do(api.Request{Op: api.OpCreate, Session: 1, Path: "/lock"})
	order := []int{5, 3, 4}
	var steps []string
	for _, session := range order {
		_, step, _ := path.Split(do(Ask(session, "/lock", "w-")))
		steps = append(steps, step)
	}
	seen := 0
	for i, session := range order {
		lined(t, a, "/lock", "w-", steps[i:]...)
		who, token, e := Holder(a, "/lock", "w-")
		if who != session || e != api.OK {
			t.Errorf("%d holds it, not %d; %d", who, session, e)
		}
		for j := i; j < len(steps); j++ {
			want := ""
			if j > i {
				want = steps[j-1]
			}
			ahead(t, a, "/lock", "w-", steps[j], want)
		}
		was := seen
		var taken bool
		if seen, taken = Fence(seen, token); !taken || seen != token || token <= was {
			t.Errorf("a token %d behind %d: %v, %d", token, was, taken, seen)
		}
		if still, taken := Fence(seen, was); taken || still != seen {
			t.Errorf("an old token %d: %v, %d", was, taken, still)
		}
		do(api.Request{Op: api.OpClose, Session: session})
	}
	lined(t, a, "/lock", "w-")
	if who, token, e := Holder(a, "/lock", "w-"); who != 0 || token != 0 || e != api.OK {
		t.Errorf("%d, %d, %d", who, token, e)
	}
}

// byForm is Line of a good tree by another hand: all paths are held against a form.
func byForm(a api.Tree, dir, name string) []string {
	form := regexp.MustCompile(`\A` + regexp.QuoteMeta(strings.TrimSuffix(dir, "/")+"/") + `(` + regexp.QuoteMeta(name) + `[0-9]{10})\z`)
	var line []string
	for _, n := range a.Nodes {
		if m := form.FindStringSubmatch(n.Path); m != nil {
			line = append(line, m[1])
		}
	}
	slices.Sort(line)
	return line
}

// against holds all calls to a line by another hand.
func against(t *testing.T, a api.Tree, dir, name string) {
	t.Helper()
	line := byForm(a, dir, name)
	lined(t, a, dir, name, line...)
	var first api.Node
	if len(line) > 0 {
		first, _ = tree.Get(a, strings.TrimSuffix(dir, "/")+"/"+line[0])
	}
	if who, token, e := Holder(a, dir, name); who != first.Stat.Owner || token != first.Stat.Czxid || e != api.OK {
		t.Errorf("Holder of %q, %q: %d, %d, %d; asked for %v", dir, name, who, token, e, first)
	}
	last := ""
	for _, step := range line {
		ahead(t, a, dir, name, step, last)
		last = step
	}
	n, _ := tree.Get(a, dir)
	for _, want := range []int{0, 1, n.Stat.Kids - 1, n.Stat.Kids, n.Stat.Kids + 1} {
		if want < 0 || want > api.MaxWant {
			continue
		}
		if ok, e := Ready(a, dir, want); ok != (n.Stat.Kids >= want) || e != api.OK {
			t.Errorf("Ready of %q, %d of %d: %v, %d", dir, want, n.Stat.Kids, ok, e)
		}
	}
}

// P13.1 to P13.4, P13.6: long ways of requests, against the chapter by another hand.
func TestWays(t *testing.T) {
	dirs := []string{"/", "/a", "/a/b", "/a-b"}
	names := []string{"", "q", "q-", "qq", "1", "a", long}
	stood, left := 0, 0
	for seed := range 40 {
		r := rand.New(rand.NewSource(int64(seed)))
		a := tree.New()
		for range 150 {
			session, dir, name := 1+r.Intn(4), dirs[r.Intn(len(dirs))], names[r.Intn(len(names))]
			q := Ask(session, dir, name)
			switch r.Intn(12) {
			case 0, 1, 2:
				q = api.Request{Op: api.OpOpen, Session: session}
			case 3:
				q = api.Request{Op: api.OpClose, Session: session}
			case 4, 5:
				q = api.Request{Op: api.OpCreate, Session: session, Path: dirs[1+r.Intn(3)]}
			case 6:
				q.Flags, q.Path = 0, fmt.Sprint(q.Path, r.Intn(100))
			case 7:
				q.Flags = api.FlagSequential
			}
			x, e := prep.Prepare(a, a.Zxid+1, q)
			if e != api.OK {
				continue
			}
			a, _, _ = tree.Apply(a, x)
			if x.Op == api.OpCreate && x.Owner != 0 {
				stood++
			}
			if x.Op == api.OpClose {
				left++
			}
			for _, dir := range dirs {
				if _, e := tree.Get(a, dir); e == api.OK {
					against(t, a, dir, names[r.Intn(len(names))])
				}
			}
			if t.Failed() {
				t.FailNow()
			}
		}
	}
	if stood < 500 || left < 50 {
		t.Errorf("%d stood in line, %d left: too few", stood, left)
	}
}

// P13.1, P13.3, P13.4, P13.6: of a tree that is not good nothing is promised but that calls end, and do not panic.
func TestBadTrees(t *testing.T) {
	texts := []string{"", "/", "//", "/a", "/a/", "/a/q0000000001", "/q0000000001", "/q0000000002", "//q0000000001", "q0000000001", "0000000001", "\x00", "\xff", strings.Repeat("/a", 150), strings.Repeat("/a", 150) + "/q0000000001"}
	r := rand.New(rand.NewSource(13))
	text := func() string { return texts[r.Intn(len(texts))] }
	number := func() int { return []int{math.MinInt, -1, 0, 1, 5, math.MaxInt}[r.Intn(6)] }
	for range 50_000 {
		a := api.Tree{Zxid: number()}
		for range r.Intn(6) {
			a.Nodes = append(a.Nodes, api.Node{Path: text(), Data: text(), Stat: api.Stat{Czxid: number(), Owner: number(), Kids: number()}})
		}
		for range r.Intn(3) {
			a.Sessions = append(a.Sessions, number())
		}
		dir, name := text(), []string{"", "q", "Q", "/", text()}[r.Intn(5)]
		Line(a, dir, name)
		Holder(a, dir, name)
		Before(a, dir, name, text())
		Ready(a, dir, r.Intn(api.MaxWant+1))
	}
	great := api.Tree{Nodes: make([]api.Node, 300_000)}
	Line(great, "", "")
	Holder(great, "", "q")
	Before(great, "", "q", "q")
	Ready(great, "", 1)
}

// P13.1: a tree that comes in is not changed, its spare room neither; what comes out is the caller's.
func TestApart(t *testing.T) {
	a := lines(t)
	a.Nodes = append(a.Nodes, api.Node{Path: "spare"})[:len(a.Nodes)]
	a.Sessions = append(a.Sessions, 99)[:len(a.Sessions)]
	nodes, sessions := slices.Clone(a.Nodes[:len(a.Nodes)+1]), slices.Clone(a.Sessions[:len(a.Sessions)+1])
	for _, name := range []string{"q", "", "z"} {
		line, _ := Line(a, "/l", name)
		want := slices.Clone(line)
		line = line[:cap(line)]
		for i := range line {
			line[i] = "scribbled over"
		}
		lined(t, a, "/l", name, want...)
		Holder(a, "/l", name)
		Before(a, "/l", name, "q0000000010")
		Ready(a, "/l", 3)
	}
	if !slices.Equal(a.Nodes[:len(nodes)], nodes) || !slices.Equal(a.Sessions[:len(sessions)], sessions) {
		t.Errorf("%v came in", a)
	}
}

// P13.1, P13.2, P13.4: texts of answers share no memory with what came in.
func TestTextsApart(t *testing.T) {
	a := lines(t)
	dir, name, step := strings.Clone("/l"), strings.Clone("q"), strings.Clone("q0000000010")
	came := append([]string{dir, name, step}, "/", "")
	for _, n := range a.Nodes {
		came = append(came, n.Path, n.Data)
	}
	line, _ := Line(a, dir, name)
	before, _ := Before(a, dir, name, step)
	answers := append(line, before, Ask(1, dir, name).Path, Ask(1, "", name).Path, Ask(1, dir, "").Path, Ask(1, strings.Clone("/"), name).Path)
	for _, got := range answers {
		for _, in := range came {
			if within(got, in) {
				t.Errorf("%q lies within %q", got, in)
			}
		}
	}
}

// within is whether a text begins in another one's memory.
func within(s, in string) bool {
	for i := range len(in) {
		if unsafe.StringData(s) == unsafe.StringData(in[i:]) {
			return true
		}
	}
	return false
}

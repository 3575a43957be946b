package client

import (
	"fmt"
	"maps"
	"math"
	"math/rand"
	"reflect"
	"slices"
	"strings"
	"testing"
	"unsafe"

	"aviary/api"
)

const most = 1<<31 - 1 // of a session's number

func node(path, data string) api.Entry { return api.Entry{Path: path, Data: data, There: true} }
func none(path string) api.Entry       { return api.Entry{Path: path} }

func note(session, kind int, path string) api.Note {
	return api.Note{Session: session, Event: api.Event{Kind: kind, Path: path}}
}

// end is a client's end with a cache as it is handed in.
func end(session, seen int, cache ...api.Entry) api.Client {
	return api.Client{Session: session, Seen: seen, Cache: cache}
}

// like holds an end to another one; a list without elements may be nil or not.
func like(t *testing.T, what string, got, want api.Client) {
	t.Helper()
	if got.Session != want.Session || got.Seen != want.Seen || !slices.Equal(got.Cache, want.Cache) {
		t.Errorf("%s: %v, not %v", what, got, want)
	}
}

// zero holds an end to the zero value.
func zero(t *testing.T, what string, got api.Client) {
	t.Helper()
	if got.Session != 0 || got.Seen != 0 || len(got.Cache) != 0 {
		t.Errorf("%s: %v beside an error", what, got)
	}
}

// P12.1: an end of the session, that has seen 0, its cache empty; the bounds are within.
func TestNew(t *testing.T) {
	for _, session := range []int{1, 2, 3, 16, 1 << 30, most - 1, most} {
		c, e := New(session)
		if e != api.OK {
			t.Errorf("%d: %d", session, e)
		}
		like(t, fmt.Sprint(session), c, end(session, 0))
	}
}

// P12.1: a session's number out of its bounds.
func TestNewRange(t *testing.T) {
	for _, session := range []int{0, -1, most + 1, -most, 1 << 32, 1<<32 + 1, math.MinInt, math.MaxInt} {
		c, e := New(session)
		if e != api.ErrRange {
			t.Errorf("%d: %d", session, e)
		}
		zero(t, fmt.Sprint(session), c)
	}
}

// P12.2: Seen is the number, which may be the same again, and whatever numbers these are; all else stays.
func TestSee(t *testing.T) {
	for _, c := range []struct{ seen, zxid int }{
		{0, 0}, {0, 1}, {5, 5}, {5, 6}, {5, 1<<62 - 1}, {1<<31 + 7, 1 << 32}, {-1, 0}, {-7, -7}, {-7, -6},
		{math.MinInt, math.MinInt}, {math.MinInt, math.MaxInt}, {math.MaxInt, math.MaxInt}, {math.MaxInt - 1, math.MaxInt},
	} {
		for _, session := range []int{1, most, 0, -4, math.MaxInt} {
			for _, cache := range [][]api.Entry{nil, {}, {node("/a", "x")}, {none("/a"), node("/b", "y"), node("/b/c", "")}} {
				what := fmt.Sprint(c, session, cache)
				got, e := See(end(session, c.seen, cache...), c.zxid)
				if e != api.OK {
					t.Errorf("%s: %d", what, e)
				}
				like(t, what, got, end(session, c.zxid, cache...))
			}
		}
	}
}

// P12.2: See is told before the form of a cache: one of any form stays as it is.
func TestSeeAnyCache(t *testing.T) {
	cache := []api.Entry{node("/b", "1"), node("/a", "2"), {Path: "/b", Data: "3"}, node("", "4")}
	got, e := See(end(3, 5, cache...), 9)
	if e != api.OK {
		t.Error(e)
	}
	like(t, "any cache", got, end(3, 9, cache...))
}

// P12.2: a number below Seen.
func TestSeeStale(t *testing.T) {
	for _, c := range []struct{ seen, zxid int }{
		{1, 0}, {5, 4}, {5, 0}, {5, -5}, {0, -1}, {-1, -2}, {1 << 32, 1<<32 - 1}, {1 << 32, 1},
		{math.MaxInt, math.MinInt}, {math.MaxInt, math.MaxInt - 1}, {math.MinInt + 1, math.MinInt}, {1, math.MinInt}, {math.MaxInt, -1},
	} {
		got, e := See(end(3, c.seen, node("/a", "x")), c.zxid)
		if e != api.ErrStale {
			t.Errorf("%v: %d", c, e)
		}
		zero(t, fmt.Sprint(c), got)
	}
}

// P12.1, P12.2: what was seen never goes back, answer by answer.
func TestSeeOn(t *testing.T) {
	c, _ := New(3)
	for _, s := range []struct {
		zxid int
		code api.Errno
		seen int
	}{{5, api.OK, 5}, {4, api.ErrStale, 5}, {5, api.OK, 5}, {1 << 31, api.OK, 1 << 31}, {6, api.ErrStale, 1 << 31}, {0, api.ErrStale, 1 << 31}} {
		after, e := See(c, s.zxid)
		if e != s.code {
			t.Errorf("%v: %d", s, e)
		}
		if e == api.OK {
			c = after
		}
		like(t, fmt.Sprint(s), c, end(3, s.seen))
	}
}

// P12.3: an entry of a new path stands at its place: ahead of all, between, behind all.
func TestKeepPlace(t *testing.T) {
	cache := []api.Entry{node("/b", "1"), none("/d"), node("/f", "3")}
	for i, path := range []string{"/a", "/c", "/e", "/g"} {
		for _, e := range []api.Entry{node(path, "new"), none(path), node(path, "")} {
			like(t, fmt.Sprint(e), Keep(end(3, 7, cache...), e), end(3, 7, slices.Insert(slices.Clone(cache), i, e)...))
		}
	}
	like(t, "of none", Keep(end(3, 7), node("/a", "x")), end(3, 7, node("/a", "x")))
	like(t, "of an empty list", Keep(api.Client{Session: 3, Cache: []api.Entry{}}, none("/a")), end(3, 0, none("/a")))
}

// P12.3: an entry of a path that has one takes its place, whatever both are; the others stay.
func TestKeepAgain(t *testing.T) {
	cache := []api.Entry{node("/b", "1"), none("/d"), node("/f", "3")}
	for i, was := range cache {
		for _, e := range []api.Entry{node(was.Path, "new"), none(was.Path), node(was.Path, ""), was} {
			want := slices.Clone(cache)
			want[i] = e
			like(t, fmt.Sprint(e), Keep(end(3, 7, cache...), e), end(3, 7, want...))
		}
	}
}

// P12.3: the Data of a node that is not there is kept empty, where its path is new and where it has an entry; others keep theirs.
func TestKeepNotThere(t *testing.T) {
	e := api.Entry{Path: "/a", Data: "y"}
	like(t, "new", Keep(end(3, 0), e), end(3, 0, none("/a")))
	like(t, "again", Keep(end(3, 0, node("/a", "x"), node("/b", "z")), e), end(3, 0, none("/a"), node("/b", "z")))
	if got, there := Look(Keep(end(3, 0), e), "/a"); got != none("/a") || !there {
		t.Errorf("%v, %v", got, there)
	}
	if got, there := Look(Keep(end(3, 0), node("/a", "y")), "/a"); got != node("/a", "y") || !there {
		t.Errorf("%v, %v", got, there)
	}
}

// texts are in order, byte by byte; not all of them are paths, and a cache asks for none.
func texts() []string {
	return []string{"", "\x00", "/", "/\x00", "/-", "/a", "/a\x00", "/a-", "/a/", "/a/b", "/a/b/c", "/a0", "/aa", "/b", "/é", "/\xff", "a", strings.Repeat("z", 5000), "\x80", "\xff\xff"}
}

// P12.3: entries are by path, rising byte by byte, in whatever order they come; each is found, and nothing between.
func TestKeepOrder(t *testing.T) {
	r := rand.New(rand.NewSource(12))
	var want []api.Entry
	for i, path := range texts() {
		want = append(want, node(path, fmt.Sprint("data ", i)))
	}
	for range 200 {
		c, _ := New(9)
		for _, i := range r.Perm(len(want)) {
			if _, there := Look(c, want[i].Path); there {
				t.Fatalf("%q is there too early", want[i].Path)
			}
			c = Keep(Keep(c, none(want[i].Path)), want[i])
		}
		like(t, "in order", c, end(9, 0, want...))
		for _, e := range want {
			if got, there := Look(c, e.Path); got != e || !there {
				t.Fatalf("%q: %v, %v", e.Path, got, there)
			}
			if got, there := Look(c, e.Path+"."); got != (api.Entry{}) || there {
				t.Fatalf("%q.: %v, %v", e.Path, got, there)
			}
		}
	}
}

// P12.3: any number of entries, and of bytes, may be kept; whose end it is and what it has seen does not matter.
func TestKeepMuch(t *testing.T) {
	c := end(-5, math.MinInt)
	for i := range 3 * api.MaxNodes {
		c = Keep(c, node(fmt.Sprintf("/n%05d", i), "x"))
	}
	long := node(strings.Repeat("/s", api.MaxPath), strings.Repeat("d", 10*api.MaxData))
	c = Keep(c, long)
	if len(c.Cache) != 3*api.MaxNodes+1 || c.Session != -5 || c.Seen != math.MinInt {
		t.Errorf("%d entries, of %d and %d", len(c.Cache), c.Session, c.Seen)
	}
	if got, there := Look(c, long.Path); got != long || !there {
		t.Errorf("%v, %v", got, there)
	}
}

// P12.3: Look: the entry as it stands, one of a node that is not there too; the zero value where there is none.
func TestLook(t *testing.T) {
	c := end(3, 7, node("/a", "x"), node("/b", ""), none("/b/c"), node("/d", "y"))
	for _, e := range c.Cache {
		if got, there := Look(c, e.Path); got != e || !there {
			t.Errorf("%v: %v, %v", e, got, there)
		}
	}
	for _, path := range []string{"", "/", "/a/", "/A", "/aa", "/b/", "/b/a", "/b/c/d", "/b/d", "/c", "/e", "a", "d", "/a\x00", "\xff"} {
		if got, there := Look(c, path); got != (api.Entry{}) || there {
			t.Errorf("%q: %v, %v", path, got, there)
		}
	}
	for _, c := range []api.Client{{}, {Session: 3, Cache: []api.Entry{}}} {
		for _, path := range []string{"", "/", "/a"} {
			if got, there := Look(c, path); got != (api.Entry{}) || there {
				t.Errorf("%q of none: %v, %v", path, got, there)
			}
		}
	}
}

// P12.4: each kind of event but EventKids takes the entry of its path out, kinds that are none of the table too.
func TestTellKinds(t *testing.T) {
	c := end(3, 7, node("/a", "x"), none("/b"), node("/c", "z"))
	for _, kind := range []int{api.EventMade, api.EventGone, api.EventData, 0, 5, -1, -4, 1<<32 + api.EventKids, math.MinInt, math.MaxInt} {
		for i, e := range c.Cache {
			want := slices.Delete(slices.Clone(c.Cache), i, i+1)
			like(t, fmt.Sprint(kind, e), Tell(c, []api.Note{note(3, kind, e.Path)}), end(3, 7, want...))
		}
	}
	for _, e := range c.Cache {
		like(t, fmt.Sprint("kids of ", e), Tell(c, []api.Note{note(3, api.EventKids, e.Path)}), c)
	}
}

// P12.4: notes with other sessions take nothing out; the end's own may be any number.
func TestTellSessions(t *testing.T) {
	sessions := []int{3, 1, 2, 4, 0, -3, 1<<32 + 3, most, math.MinInt, math.MaxInt}
	for _, own := range sessions {
		c := end(own, 7, node("/a", "x"), node("/b", "y"))
		for _, session := range sessions {
			want := c
			if session == own {
				want = end(own, 7, node("/b", "y"))
			}
			like(t, fmt.Sprint(own, " told as ", session), Tell(c, []api.Note{note(session, api.EventGone, "/a")}), want)
		}
	}
}

// P12.4: a note takes the entry of its path out alone, not those above it, below it, or that begin like it.
func TestTellPaths(t *testing.T) {
	var cache []api.Entry
	for _, path := range texts() {
		cache = append(cache, node(path, "x"))
	}
	for i, path := range texts() {
		want := slices.Delete(slices.Clone(cache), i, i+1)
		like(t, path, Tell(end(3, 7, cache...), []api.Note{note(3, api.EventData, path)}), end(3, 7, want...))
		like(t, path+".", Tell(end(3, 7, cache...), []api.Note{note(3, api.EventData, path+".")}), end(3, 7, cache...))
	}
}

// P12.4: one note that counts is enough, whatever others there are of its path, and wherever it stands.
func TestTellSeveral(t *testing.T) {
	c := end(3, 7, none("/"), node("/a", "x"), none("/b"), node("/c", "z"), node("/d", ""))
	for _, s := range []struct {
		what  string
		notes []api.Note
		left  []api.Entry
	}{
		{"the first counts", []api.Note{note(3, api.EventGone, "/a"), note(3, api.EventKids, "/a"), note(4, api.EventGone, "/a")}, []api.Entry{c.Cache[0], c.Cache[2], c.Cache[3], c.Cache[4]}},
		{"the last counts", []api.Note{note(3, api.EventKids, "/a"), note(4, api.EventGone, "/a"), note(3, api.EventGone, "/a")}, []api.Entry{c.Cache[0], c.Cache[2], c.Cache[3], c.Cache[4]}},
		{"none counts", []api.Note{note(3, api.EventKids, "/a"), note(4, api.EventGone, "/a"), note(4, api.EventKids, "/a")}, c.Cache},
		{"each of its own", []api.Note{note(3, api.EventKids, "/a"), note(4, api.EventGone, "/b"), note(3, api.EventMade, "/c")}, []api.Entry{c.Cache[0], c.Cache[1], c.Cache[2], c.Cache[4]}},
		{"falling", []api.Note{note(3, api.EventGone, "/d"), note(3, api.EventMade, "/b"), note(3, api.EventData, "/")}, []api.Entry{c.Cache[1], c.Cache[3]}},
		{"twice", []api.Note{note(3, api.EventGone, "/d"), note(3, api.EventMade, "/d"), note(3, api.EventGone, "/d")}, c.Cache[:4]},
		{"none there", []api.Note{note(3, api.EventGone, "/e"), note(3, api.EventMade, "/a/b"), note(3, api.EventGone, "")}, c.Cache},
		{"all", []api.Note{note(3, api.EventGone, "/d"), note(3, api.EventMade, "/b"), note(3, api.EventData, "/"), note(3, api.EventData, "/a"), note(3, 9, "/c")}, nil},
		{"no notes", nil, c.Cache},
		{"an empty list", []api.Note{}, c.Cache},
	} {
		like(t, s.what, Tell(c, s.notes), end(3, 7, s.left...))
	}
}

// P12.4: nothing of nothing.
func TestTellNothing(t *testing.T) {
	notes := []api.Note{note(3, api.EventGone, "/a"), note(0, api.EventGone, ""), note(3, api.EventKids, "/a")}
	like(t, "a new end", Tell(end(3, 0), notes), end(3, 0))
	like(t, "the zero value", Tell(api.Client{}, notes), api.Client{})
	like(t, "an empty list", Tell(api.Client{Session: 3, Seen: 5, Cache: []api.Entry{}}, notes), end(3, 5))
}

// P12.4: many notes and many entries end soon.
func TestTellMany(t *testing.T) {
	const many = 200_000
	var cache, odd []api.Entry
	var notes []api.Note
	for i := range many {
		e := node(fmt.Sprintf("/%06d", i), "x")
		cache = append(cache, e)
		if i%2 == 0 {
			notes = append(notes, note(3, api.EventData, e.Path))
		} else {
			odd = append(odd, e)
		}
	}
	slices.Reverse(notes)
	like(t, "every other one", Tell(end(3, 7, cache...), notes), end(3, 7, odd...))
}

// P12.3, P12.4: of what is no cache nothing is promised but that calls end, and do not panic.
func TestNoCache(t *testing.T) {
	r := rand.New(rand.NewSource(121))
	for range 20_000 {
		var cache []api.Entry
		for range r.Intn(7) {
			cache = append(cache, api.Entry{Path: texts()[r.Intn(10)], Data: "x", There: r.Intn(2) == 0})
		}
		c, path := end(r.Intn(3), 0, cache...), texts()[r.Intn(10)]
		Keep(c, node(path, "y"))
		Look(c, path)
		Tell(c, []api.Note{note(1, r.Intn(6), path)})
	}
}

// held is an end by another hand: its cache is a map.
type held struct {
	session, seen int
	cache         map[string]api.Entry
}

func (h held) client() api.Client {
	var cache []api.Entry
	for _, path := range slices.Sorted(maps.Keys(h.cache)) {
		cache = append(cache, h.cache[path])
	}
	return end(h.session, h.seen, cache...)
}

// P12.1 to P12.4: long ways of calls of one end, against the chapter by another hand.
func TestWays(t *testing.T) {
	found, stale, forgot := 0, 0, 0
	for seed := range 200 {
		r := rand.New(rand.NewSource(int64(seed)))
		path := func() string { return texts()[r.Intn(len(texts())-6)] }
		h := held{1 + r.Intn(3), 0, map[string]api.Entry{}}
		c, _ := New(h.session)
		for range 200 {
			switch r.Intn(6) {
			case 0:
				z := h.seen + r.Intn(5) - 1
				after, e := See(c, z)
				if (e == api.ErrStale) != (z < h.seen) || e != api.OK && e != api.ErrStale {
					t.Fatalf("%d behind %d: %d", z, h.seen, e)
				}
				if e == api.OK {
					c, h.seen = after, z
				} else {
					stale++
				}
			case 1, 2, 3:
				e := api.Entry{Path: path(), Data: fmt.Sprint(r.Intn(9)), There: r.Intn(3) > 0}
				c = Keep(c, e)
				if !e.There {
					e.Data = ""
				}
				h.cache[e.Path] = e
			case 4:
				var notes []api.Note
				for range r.Intn(4) {
					n := note(1+r.Intn(3), 1+r.Intn(4), path())
					notes = append(notes, n)
					if _, there := h.cache[n.Event.Path]; there && n.Session == h.session && n.Event.Kind < 4 {
						delete(h.cache, n.Event.Path)
						forgot++
					}
				}
				c = Tell(c, notes)
			default:
				p := path()
				got, ok := Look(c, p)
				want, there := h.cache[p]
				if got != want || ok != there {
					t.Fatalf("%q: %v, %v, not %v, %v", p, got, ok, want, there)
				}
				if there {
					found++
				}
			}
			if like(t, fmt.Sprint("way ", seed), c, h.client()); t.Failed() {
				t.FailNow()
			}
		}
	}
	if found < 1000 || stale < 1000 || forgot < 1000 {
		t.Errorf("found %d, stale %d, forgot %d: too few", found, stale, forgot)
	}
}

// roomy is an end whose cache has spare room, which is no part of it.
func roomy() api.Client {
	l := []api.Entry{node("/a", "x"), none("/b"), node("/d", "z"), node("/spare", "s"), none("/room")}
	return end(3, 7, l[:3]...)
}

func scribble(l []api.Entry) {
	l = l[:cap(l)]
	for i := range l {
		l[i] = api.Entry{Path: "scribbled", Data: "over"}
	}
}

// calls are all that answer an end that was made of another one.
func calls() map[string]func(api.Client) api.Client {
	return map[string]func(api.Client) api.Client{
		"See":        func(c api.Client) api.Client { a, _ := See(c, 8); return a },
		"See again":  func(c api.Client) api.Client { a, _ := See(c, 7); return a },
		"See stale":  func(c api.Client) api.Client { a, _ := See(c, 6); return a },
		"Keep new":   func(c api.Client) api.Client { return Keep(c, node("/c", "new")) },
		"Keep first": func(c api.Client) api.Client { return Keep(c, node("/", "new")) },
		"Keep last":  func(c api.Client) api.Client { return Keep(c, none("/e")) },
		"Keep again": func(c api.Client) api.Client { return Keep(c, node("/b", "new")) },
		"Keep same":  func(c api.Client) api.Client { return Keep(c, node("/a", "x")) },
		"Tell":       func(c api.Client) api.Client { return Tell(c, []api.Note{note(3, api.EventGone, "/a")}) },
		"Tell none":  func(c api.Client) api.Client { return Tell(c, nil) },
		"Tell all": func(c api.Client) api.Client {
			return Tell(c, []api.Note{note(3, 1, "/d"), note(3, 1, "/a"), note(3, 1, "/b")})
		},
	}
}

// P12.2, P12.3, P12.4: no cache that comes in is changed, its spare room neither, and what comes out is the caller's.
func TestApart(t *testing.T) {
	for name, call := range calls() {
		c, whole := roomy(), roomy()
		untouched := func(when string) {
			if len(c.Cache) != 3 || !slices.Equal(c.Cache[:5], whole.Cache[:5]) {
				t.Errorf("%s, %s: %v came in", name, when, c.Cache[:5])
			}
		}
		first := call(c)
		want := first
		want.Cache = slices.Clone(first.Cache)
		untouched("behind it")
		scribble(first.Cache)
		untouched("what comes out scribbled over")
		like(t, name+" again", call(c), want)
		kept := call(c)
		scribble(c.Cache)
		like(t, name+", what came in scribbled over", kept, want)
	}
}

// P12.4: notes stay as they came, in their order, and so does their spare room.
func TestNotesApart(t *testing.T) {
	notes := []api.Note{note(3, api.EventGone, "/d"), note(4, api.EventGone, "/b"), note(3, api.EventKids, "/b"), note(3, api.EventData, "/a"), note(3, api.EventGone, "/b")}
	whole := slices.Clone(notes)
	like(t, "the first four", Tell(roomy(), notes[:4]), end(3, 7, none("/b")))
	if !reflect.DeepEqual(notes, whole) {
		t.Errorf("%v, not %v", notes, whole)
	}
}

// P12.2, P12.3, P12.4: texts of answers share no memory with what came in.
func TestTextsApart(t *testing.T) {
	c := end(3, 7, node(strings.Clone("/a"), strings.Clone("x")), node(strings.Clone("/d"), strings.Clone("z")))
	kept := node(strings.Clone("/c"), strings.Clone("new"))
	again := node(strings.Clone("/a"), strings.Clone("other"))
	came := map[*byte]bool{}
	for _, e := range append(slices.Clone(c.Cache), kept, again) {
		came[unsafe.StringData(e.Path)], came[unsafe.StringData(e.Data)] = true, true
	}
	seen, _ := See(c, 9)
	looked, _ := Look(c, "/d")
	for name, cache := range map[string][]api.Entry{
		"See": seen.Cache, "Look": {looked}, "Keep": Keep(c, kept).Cache, "Keep again": Keep(c, again).Cache,
		"Tell": Tell(c, []api.Note{note(3, api.EventGone, "/a")}).Cache,
	} {
		if len(cache) == 0 {
			t.Errorf("%s: nothing", name)
		}
		for _, e := range cache {
			if came[unsafe.StringData(e.Path)] || came[unsafe.StringData(e.Data)] {
				t.Errorf("%s: %v shares a text with what came in", name, e)
			}
		}
	}
}

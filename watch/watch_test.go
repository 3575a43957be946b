package watch

import (
	"fmt"
	"math"
	"math/rand"
	"slices"
	"strings"
	"testing"
	"unsafe"

	"aviary/api"
)

const most = 1<<31 - 1 // of a session's number

func data(session int, p string) api.Watch {
	return api.Watch{Session: session, Kind: api.WatchData, Path: p}
}

func kids(session int, p string) api.Watch {
	return api.Watch{Session: session, Kind: api.WatchKids, Path: p}
}

func made(p string) api.Event    { return api.Event{Kind: api.EventMade, Path: p} }
func gone(p string) api.Event    { return api.Event{Kind: api.EventGone, Path: p} }
func changed(p string) api.Event { return api.Event{Kind: api.EventData, Path: p} }
func below(p string) api.Event   { return api.Event{Kind: api.EventKids, Path: p} }

func note(session int, e api.Event) api.Note { return api.Note{Session: session, Event: e} }

// full is n watches, no two alike.
func full(n int) []api.Watch {
	var l []api.Watch
	for i := range n {
		l = append(l, api.Watch{Session: i/2 + 1, Kind: i%2 + 1, Path: fmt.Sprintf("/n%d", i%7)})
	}
	return l
}

// added holds Add to a list that it must answer.
func added(t *testing.T, what string, l []api.Watch, w api.Watch, want ...api.Watch) {
	t.Helper()
	if got, e := Add(l, w); e != api.OK || !slices.Equal(got, want) {
		t.Errorf("%s: %v, %d, not %v", what, got, e, want)
	}
}

// refused holds Add to an error, and to no list beside it.
func refused(t *testing.T, what string, l []api.Watch, w api.Watch, want api.Errno) {
	t.Helper()
	if got, e := Add(l, w); e != want || len(got) != 0 {
		t.Errorf("%s: %v, %d, not %d", what, got, e, want)
	}
}

// fired holds Fire to the notes and to the watches that are left.
func fired(t *testing.T, what string, l []api.Watch, events []api.Event, notes []api.Note, left ...api.Watch) {
	t.Helper()
	if n, w := Fire(l, events); !slices.Equal(n, notes) || !slices.Equal(w, left) {
		t.Errorf("%s: %v, %v, not %v, %v", what, n, w, notes, left)
	}
}

// P8.1: a watch comes behind the others, whatever their order is.
func TestAdd(t *testing.T) {
	a, b, c := data(2, "/a"), kids(1, "/"), data(1, "/a/b")
	added(t, "to none", nil, a, a)
	added(t, "to an empty list", []api.Watch{}, a, a)
	added(t, "to one", []api.Watch{a}, b, a, b)
	added(t, "to two", []api.Watch{a, b}, c, a, b, c)
	added(t, "the other way", []api.Watch{c, b}, a, c, b, a)
}

// P8.1: a list with one that is alike stays as it is, wherever that one stands.
func TestAddAlike(t *testing.T) {
	l := []api.Watch{data(2, "/a"), kids(1, "/"), data(1, "/a/b")}
	for _, w := range l {
		added(t, fmt.Sprint(w), l, w, l...)
	}
	twice := []api.Watch{data(1, "/a"), data(1, "/a"), kids(1, "/a")}
	added(t, "doubled as it came", twice, data(1, "/a"), twice...)
}

// P8.1: one that differs in a single field is not alike.
func TestAddNearly(t *testing.T) {
	w := data(7, "/a")
	for _, other := range []api.Watch{data(8, "/a"), kids(7, "/a"), data(7, "/b"), data(7, "/a/a"), data(7, "/")} {
		added(t, fmt.Sprint(other), []api.Watch{w}, other, w, other)
	}
}

// P8.1: the bounds of sessions and of paths are within.
func TestAddBounds(t *testing.T) {
	longest := strings.Repeat("/"+strings.Repeat("s", api.MaxName-1), api.MaxPath/api.MaxName)
	for _, w := range []api.Watch{data(1, "/"), kids(1, "/"), data(most, "/a"), kids(most, "/a"), data(5, longest), data(5, "/"+strings.Repeat("s", api.MaxName)), kids(5, "/a-b_9/0")} {
		added(t, fmt.Sprint(w), nil, w, w)
	}
}

// P8.1: a kind that is neither.
func TestAddKind(t *testing.T) {
	for _, kind := range []int{0, 3, 4, -1, 257, 258, 1<<32 + 1, math.MinInt, math.MaxInt} {
		w := api.Watch{Session: 1, Kind: kind, Path: "/a"}
		refused(t, fmt.Sprint(kind), nil, w, api.ErrKind)
		refused(t, fmt.Sprint(kind, " that is there"), []api.Watch{w}, w, api.ErrKind)
	}
}

// P8.1: what is no path.
func TestAddForm(t *testing.T) {
	long := strings.Repeat("/"+strings.Repeat("s", api.MaxName-1), api.MaxPath/api.MaxName) + "s"
	for _, p := range []string{"", "a", "//", "/a/", "/A", "/a//b", "/a b", "/.", "/\x00", "/é", "/" + strings.Repeat("s", api.MaxName+1), long} {
		refused(t, p, nil, data(1, p), api.ErrForm)
		refused(t, p+" that is there", []api.Watch{kids(1, p)}, kids(1, p), api.ErrForm)
	}
}

// P8.1: a session's number out of its bounds.
func TestAddRange(t *testing.T) {
	for _, session := range []int{0, -1, most + 1, 1<<32 + 1, math.MinInt, math.MaxInt} {
		refused(t, fmt.Sprint(session), nil, data(session, "/a"), api.ErrRange)
		refused(t, fmt.Sprint(session, " that is there"), []api.Watch{data(session, "/a")}, data(session, "/a"), api.ErrRange)
	}
}

// P8.1: a list of MaxWatches takes no other one, but one that is there; one that came in longer neither.
func TestAddFull(t *testing.T) {
	l := full(api.MaxWatches + 2)
	last := l[api.MaxWatches-1]
	added(t, "the last one", l[:api.MaxWatches-1], last, l[:api.MaxWatches]...)
	for n := api.MaxWatches; n <= len(l); n++ {
		refused(t, fmt.Sprint(n), l[:n], data(most, "/"), api.ErrFull)
		added(t, fmt.Sprint("the first of ", n), l[:n], l[0], l[:n]...)
		added(t, fmt.Sprint("the last of ", n), l[:n], l[n-1], l[:n]...)
	}
}

// P8.1: where several errors apply, the answer is the one that the chapter names first.
func TestAddOrder(t *testing.T) {
	l := full(api.MaxWatches)
	for _, c := range []struct {
		w    api.Watch
		want api.Errno
	}{
		{api.Watch{Session: 0, Kind: 3, Path: "a"}, api.ErrKind},
		{api.Watch{Session: 1, Kind: 3, Path: "a"}, api.ErrKind},
		{api.Watch{Session: 0, Kind: 3, Path: "/a"}, api.ErrKind},
		{api.Watch{Session: 1, Kind: 3, Path: "/a"}, api.ErrKind},
		{data(0, "a"), api.ErrForm},
		{data(1, "a"), api.ErrForm},
		{kids(0, "/a"), api.ErrRange},
		{kids(most, "/a"), api.ErrFull},
	} {
		refused(t, fmt.Sprint(c.w), l, c.w, c.want)
	}
}

// P8.2: which kinds of events set off which kinds of watches; a kind that is neither is of all others.
func TestFireKinds(t *testing.T) {
	data := []int{api.EventMade, api.EventGone, api.EventData}
	for kind, off := range map[int][]int{
		api.WatchData: data, api.WatchKids: {api.EventKids, api.EventGone},
		0: data, 3: data, 4: data, -1: data, math.MinInt: data, math.MaxInt: data, 1<<32 + api.WatchKids: data,
	} {
		w := api.Watch{Session: 9, Kind: kind, Path: "/a"}
		for _, k := range []int{api.EventMade, api.EventGone, api.EventData, api.EventKids, 0, 5, -1, 1<<32 + 2, math.MinInt, math.MaxInt} {
			e := api.Event{Kind: k, Path: "/a"}
			what := fmt.Sprint("watch ", kind, ", event ", k)
			if slices.Contains(off, k) {
				fired(t, what, []api.Watch{w}, []api.Event{e}, []api.Note{note(9, e)})
			} else {
				fired(t, what, []api.Watch{w}, []api.Event{e}, nil, w)
			}
		}
	}
}

// P8.2: an event sets off watches with its Path alone, not those above it or below it.
func TestFirePaths(t *testing.T) {
	l := []api.Watch{data(1, "/"), data(2, "/a"), kids(3, "/a"), data(4, "/a/b"), kids(5, "/"), data(6, "/ab"), kids(7, "/a/b")}
	fired(t, "in the middle", l, []api.Event{gone("/a")}, []api.Note{note(2, gone("/a")), note(3, gone("/a"))}, l[0], l[3], l[4], l[5], l[6])
	fired(t, "the root", l, []api.Event{gone("/")}, []api.Note{note(1, gone("/")), note(5, gone("/"))}, l[1], l[2], l[3], l[5], l[6])
	fired(t, "nowhere", l, []api.Event{gone("/b"), gone("/a/"), gone("/A"), gone(""), gone("/a/b/c")}, nil, l...)
}

// P8.2: lists are asked as they come: texts that are no paths, and sessions that are none, are watches too.
func TestFireOdd(t *testing.T) {
	l := []api.Watch{data(0, ""), kids(-5, "a\x00"), data(math.MaxInt, "//")}
	fired(t, "empty text", l, []api.Event{made("")}, []api.Note{note(0, made(""))}, l[1], l[2])
	fired(t, "no path", l, []api.Event{below("a\x00"), changed("//")}, []api.Note{note(-5, below("a\x00")), note(math.MaxInt, changed("//"))}, l[0])
	fired(t, "other bytes", l, []api.Event{below("a"), changed("/")}, nil, l...)
}

// P8.2: without events nothing is told; without watches nobody is.
func TestFireNothing(t *testing.T) {
	l := []api.Watch{data(1, "/a")}
	fired(t, "neither", nil, nil, nil)
	fired(t, "no events", l, nil, nil, l...)
	fired(t, "empty events", l, []api.Event{}, nil, l...)
	fired(t, "no watches", nil, []api.Event{made("/a")}, nil)
	fired(t, "empty watches", []api.Watch{}, []api.Event{made("/a")}, nil)
}

// P8.2: each watch is told once, of the first event that sets it off.
func TestFireOnce(t *testing.T) {
	l := []api.Watch{data(1, "/a"), kids(1, "/a")}
	fired(t, "the same again", l, []api.Event{changed("/a"), changed("/a")}, []api.Note{note(1, changed("/a"))}, l[1])
	fired(t, "another kind", l, []api.Event{made("/a"), changed("/a"), gone("/a")}, []api.Note{note(1, made("/a")), note(1, gone("/a"))})
	fired(t, "gone last", l, []api.Event{below("/a"), gone("/a"), below("/a")}, []api.Note{note(1, below("/a")), note(1, gone("/a"))})
	fired(t, "both at once", l, []api.Event{gone("/a"), made("/a"), below("/a")}, []api.Note{note(1, gone("/a")), note(1, gone("/a"))})
}

// P8.2: a list that came in with two alike has two watches, and each is told.
func TestFireAlike(t *testing.T) {
	l := []api.Watch{data(1, "/a"), data(2, "/a"), data(1, "/a")}
	fired(t, "two alike", l, []api.Event{made("/a")}, []api.Note{note(1, made("/a")), note(2, made("/a")), note(1, made("/a"))})
}

// P8.2: notes come event by event, and of one event watch by watch; what is left keeps its order.
func TestFireOrder(t *testing.T) {
	l := []api.Watch{data(4, "/b"), data(3, "/a"), kids(9, "/c"), data(2, "/b"), data(1, "/a"), data(8, "/c"), data(3, "/b")}
	events := []api.Event{made("/a"), gone("/b"), changed("/a")}
	notes := []api.Note{note(3, made("/a")), note(1, made("/a")), note(4, gone("/b")), note(2, gone("/b")), note(3, gone("/b"))}
	fired(t, "a before b", l, events, notes, l[2], l[5])
	events = []api.Event{gone("/b"), made("/a")}
	notes = []api.Note{note(4, gone("/b")), note(2, gone("/b")), note(3, gone("/b")), note(3, made("/a")), note(1, made("/a"))}
	fired(t, "b before a", l, events, notes, l[2], l[5])
}

// P8.2: a list that came in longer than MaxWatches is fired whole.
func TestFireMany(t *testing.T) {
	var l []api.Watch
	var notes []api.Note
	for i := range 3*api.MaxWatches + 1 {
		l = append(l, data(i, "/a"))
		notes = append(notes, note(i, made("/a")))
	}
	fired(t, "many", l, []api.Event{made("/b"), made("/a"), made("/a")}, notes)
}

// P8.3: those of other sessions stay, in their order, whatever the numbers are.
func TestDrop(t *testing.T) {
	l := []api.Watch{data(2, "/a"), data(1, "/"), kids(2, "/"), kids(3, "/a"), data(2, "/"), data(-1, ""), data(1<<32+2, "/a"), {}}
	for _, c := range []struct {
		session int
		want    []api.Watch
	}{
		{2, []api.Watch{l[1], l[3], l[5], l[6], l[7]}},
		{1, []api.Watch{l[0], l[2], l[3], l[4], l[5], l[6], l[7]}},
		{3, []api.Watch{l[0], l[1], l[2], l[4], l[5], l[6], l[7]}},
		{-1, []api.Watch{l[0], l[1], l[2], l[3], l[4], l[6], l[7]}},
		{0, l[:7]}, {4, l}, {most, l}, {math.MinInt, l}, {math.MaxInt, l},
	} {
		if got := Drop(l, c.session); !slices.Equal(got, c.want) {
			t.Errorf("%d: %v, not %v", c.session, got, c.want)
		}
	}
}

// P8.3: nothing of nothing; and nothing, if all are the session's.
func TestDropAll(t *testing.T) {
	for _, l := range [][]api.Watch{nil, {}, {data(5, "/a")}, {data(5, "/a"), kids(5, "/a"), data(5, "/")}} {
		if got := Drop(l, 5); len(got) != 0 {
			t.Errorf("%v: %v", l, got)
		}
	}
}

// fireByWords is Fire by another hand: a mark for each watch that was set off, and no list that shrinks.
func fireByWords(l []api.Watch, events []api.Event) (notes []api.Note, left []api.Watch) {
	off := map[int]int{api.EventMade: 1, api.EventData: 1, api.EventGone: 3, api.EventKids: 2}
	was := make([]bool, len(l))
	for _, e := range events {
		for i, w := range l {
			side := 1
			if w.Kind == api.WatchKids {
				side = 2
			}
			if !was[i] && w.Path == e.Path && off[e.Kind]&side != 0 {
				was[i] = true
				notes = append(notes, api.Note{Session: w.Session, Event: e})
			}
		}
	}
	for i, w := range l {
		if !was[i] {
			left = append(left, w)
		}
	}
	return notes, left
}

// P8.1, P8.2, P8.3: long ways of calls, each against its words.
func TestWays(t *testing.T) {
	r := rand.New(rand.NewSource(8))
	paths := []string{"/", "/a", "/a/b", "/b", "a", ""}
	for range 200 {
		var l []api.Watch
		for range 60 {
			w := api.Watch{Session: r.Intn(5), Kind: r.Intn(4), Path: paths[r.Intn(len(paths))]}
			want := l
			bad := w.Session == 0 || w.Kind == 0 || w.Kind == 3 || !strings.HasPrefix(w.Path, "/")
			if !bad && !slices.Contains(l, w) {
				want = append(slices.Clone(l), w)
			}
			if got, e := Add(l, w); (e != api.OK) != bad || !bad && !slices.Equal(got, want) {
				t.Fatalf("%v, %v: %v, %d", l, w, got, e)
			}
			l = want
		}
		var events []api.Event
		for range r.Intn(8) {
			events = append(events, api.Event{Kind: r.Intn(6), Path: paths[r.Intn(len(paths))]})
		}
		notes, left := fireByWords(l, events)
		fired(t, fmt.Sprint(l, events), l, events, notes, left...)
		session := r.Intn(5)
		for _, w := range Drop(l, session) {
			if w.Session == session || !slices.Contains(l, w) {
				t.Fatalf("%v, %d: %v", l, session, w)
			}
		}
	}
}

// roomy is a list with spare room, which is no part of the list.
func roomy() []api.Watch {
	l := []api.Watch{data(1, "/a"), kids(2, "/a"), data(3, "/b"), data(1, "/b"), data(6, "/spare"), data(7, "/room")}
	return l[:4]
}

func scribble(l []api.Watch) {
	l = l[:cap(l)]
	for i := range l {
		l[i] = api.Watch{Session: -9, Kind: -9, Path: "scribbled"}
	}
}

// P8.1, P8.2, P8.3: no list that comes in is changed, its spare room neither, and what comes out is the caller's.
func TestApart(t *testing.T) {
	calls := map[string]func(l []api.Watch) []api.Watch{
		"Add":       func(l []api.Watch) []api.Watch { a, _ := Add(l, data(5, "/c")); return a },
		"Add alike": func(l []api.Watch) []api.Watch { a, _ := Add(l, data(1, "/a")); return a },
		"Fire":      func(l []api.Watch) []api.Watch { _, a := Fire(l, []api.Event{gone("/a"), made("/c")}); return a },
		"Fire none": func(l []api.Watch) []api.Watch { _, a := Fire(l, nil); return a },
		"Drop":      func(l []api.Watch) []api.Watch { return Drop(l, 1) },
		"Drop none": func(l []api.Watch) []api.Watch { return Drop(l, 4) },
		"refused":   func(l []api.Watch) []api.Watch { a, _ := Add(l, data(0, "/a")); return a },
	}
	for name, call := range calls {
		l, whole := roomy(), roomy()
		whole = whole[:cap(whole)]
		first := call(l)
		want := slices.Clone(first)
		if !slices.Equal(l[:cap(l)], whole) {
			t.Errorf("%s changed what came in: %v", name, l[:cap(l)])
		}
		scribble(first)
		if !slices.Equal(l[:cap(l)], whole) {
			t.Errorf("%s: what comes out is what came in: %v", name, l[:cap(l)])
		}
		if again := call(l); !slices.Equal(again, want) {
			t.Errorf("%s answers otherwise: %v, not %v", name, again, want)
		}
		kept := call(l)
		scribble(l)
		if !slices.Equal(kept, want) {
			t.Errorf("%s: what came in is what comes out: %v", name, kept)
		}
	}
}

// P8.2: events and their spare room stay as they came, and notes are the caller's.
func TestNotesApart(t *testing.T) {
	events := []api.Event{made("/a"), gone("/b"), made("/spare")}
	whole := slices.Clone(events)
	notes, left := Fire(roomy(), events[:2])
	want, kept := slices.Clone(notes), slices.Clone(left)
	if len(want) != 3 || len(kept) != 1 || !slices.Equal(events, whole) {
		t.Fatalf("%v, %v, %v", notes, left, events)
	}
	events[0], events[1] = changed("x"), changed("y")
	if !slices.Equal(notes, want) {
		t.Errorf("notes follow events: %v", notes)
	}
	for i := range notes[:cap(notes)] {
		notes[:cap(notes)][i] = note(-9, made("scribbled"))
	}
	if !slices.Equal(left, kept) {
		t.Errorf("left follows notes: %v", left)
	}
	if again, _ := Fire(roomy(), whole[:2]); !slices.Equal(again, want) {
		t.Errorf("%v, not %v", again, want)
	}
}

// P8.1, P8.2, P8.3: texts of answers share no memory with what came in, nor with each other.
func TestTextsApart(t *testing.T) {
	w := data(5, strings.Clone("/c"))
	events := []api.Event{gone("/a"), changed("/b")}
	l := roomy()
	a, _ := Add(l, w)
	b, _ := Add(l, l[0])
	notes, left := Fire(append(l, w, kids(6, w.Path)), events)
	lists := [][]api.Watch{l, {w}, a, b, left, Drop(l, 2)}
	seen := map[*byte]string{}
	count := func(what, s string) {
		if at := unsafe.StringData(s); seen[at] != "" && what != "came in" {
			t.Errorf("%s shares %q with what %s", what, s, seen[at])
		} else {
			seen[at] = what
		}
	}
	for i, list := range lists {
		for _, v := range list {
			count([]string{"came in", "came in", "Add", "Add alike", "Fire's left", "Drop"}[i], v.Path)
		}
	}
	for _, e := range events {
		count("came in", e.Path)
	}
	for _, n := range notes {
		count("Fire's notes", n.Event.Path)
	}
}

package disk

import (
	"fmt"
	"math"
	"math/rand"
	"reflect"
	"slices"
	"strings"
	"testing"

	"aviary/api"
)

func bytes(n int) string { return strings.Repeat("x", n) }

// pair is a disk of two files, one with safe bytes and others, one with others alone.
func pair() api.Disk {
	return api.Disk{Files: []api.File{{Name: "a", Safe: "one", Tail: "two"}, {Name: "c", Tail: "four"}}}
}

// many is a good disk of n files: f00, f01, ..
func many(n int) api.Disk {
	var d api.Disk
	for i := range n {
		d.Files = append(d.Files, api.File{Name: fmt.Sprintf("f%02d", i), Safe: "s", Tail: "t"})
	}
	return d
}

func named(names ...string) api.Disk {
	var d api.Disk
	for _, name := range names {
		d.Files = append(d.Files, api.File{Name: name})
	}
	return d
}

func long(safe, tail int) api.Disk {
	return api.Disk{Files: []api.File{{Name: "a"}, {Name: "b", Safe: bytes(safe), Tail: bytes(tail)}, {Name: "c"}}}
}

// goods is disks that are good, the edges among them.
func goods() map[string]api.Disk {
	return map[string]api.Disk{
		"none":             {},
		"an empty list":    {Files: []api.File{}},
		"two":              pair(),
		"as many as may":   many(api.MaxFiles),
		"one full, safe":   long(api.MaxFile, 0),
		"one full, tail":   long(0, api.MaxFile),
		"one full, both":   long(api.MaxFile-1, 1),
		"bytes that rise":  named("-", "0", "9", "_", "a", "z"),
		"a name's opening": named("a", "a-", "aa", "ab", "b"),
		"the longest name": named("a", strings.Repeat("a", api.MaxName)),
	}
}

// bads is disks of one fault each.
func bads() map[string]api.Disk {
	return map[string]api.Disk{
		"too many":           many(api.MaxFiles + 1),
		"far too many":       many(99),
		"falling":            named("b", "a"),
		"falling at the end": named("a", "b", "d", "c"),
		"twice":              named("a", "b", "b"),
		"twice, apart":       named("a", "b", "a"),
		"an opening behind":  named("aa", "a"),
		"bytes that fall":    named("_", "9"),
		"an empty name":      named(""),
		"a wrong byte":       named("a", "b/c"),
		"a great letter":     named("A"),
		"a zero byte":        named("a\x00"),
		"too long a name":    named(strings.Repeat("a", api.MaxName+1)),
		"a file too long":    long(api.MaxFile, 1),
		"a safe too long":    long(api.MaxFile+1, 0),
		"a tail too long":    long(0, api.MaxFile+1),
		"both too long":      long(api.MaxFile, api.MaxFile),
		"a wrong last file":  {Files: append(many(3).Files, api.File{Name: "g", Tail: bytes(api.MaxFile + 1)})},
	}
}

// deeds is all calls that take a disk, with arguments that no good disk of two files refuses.
func deeds() map[string]func(api.Disk) (api.Disk, api.Errno) {
	return map[string]func(api.Disk) (api.Disk, api.Errno){
		"Write":        func(d api.Disk) (api.Disk, api.Errno) { return Write(d, "a", "more") },
		"Write, a new": func(d api.Disk) (api.Disk, api.Errno) { return Write(d, "b", "more") },
		"Sync":         func(d api.Disk) (api.Disk, api.Errno) { return Sync(d, "a") },
		"Cut":          func(d api.Disk) (api.Disk, api.Errno) { return Cut(d, "a", 4) },
		"Remove":       func(d api.Disk) (api.Disk, api.Errno) { return Remove(d, "a") },
		"Crash":        func(d api.Disk) (api.Disk, api.Errno) { return Crash(d, 1) },
	}
}

func alike(a, b api.Disk) bool { return slices.Equal(a.Files, b.Files) }

// short is a disk as a text, without all of a long file.
func short(d api.Disk) string { return fmt.Sprintf("%.200q", fmt.Sprint(d.Files)) }

// answered holds a call to a disk.
func answered(t *testing.T, what string, want api.Disk) func(api.Disk, api.Errno) {
	return func(got api.Disk, e api.Errno) {
		t.Helper()
		if e != api.OK || !alike(got, want) {
			t.Errorf("%s: %s, %d; asked for %s", what, short(got), e, short(want))
		}
	}
}

// refused holds a call to an error, and to nothing beside it.
func refused(t *testing.T, what string, want api.Errno) func(api.Disk, api.Errno) {
	return func(got api.Disk, e api.Errno) {
		t.Helper()
		if e != want || len(got.Files) != 0 {
			t.Errorf("%s: %s, %d; asked for %d", what, short(got), e, want)
		}
	}
}

// P4.1: disks that are good, and disks that are not.
func TestGood(t *testing.T) {
	for what, d := range goods() {
		if !Good(d) {
			t.Errorf("%s is not good", what)
		}
	}
	for what, d := range bads() {
		if Good(d) {
			t.Errorf("%s is good", what)
		}
	}
}

// P4.1: every byte in a name.
func TestGoodBytes(t *testing.T) {
	const good = "abcdefghijklmnopqrstuvwxyz0123456789-_"
	for b := range 256 {
		s := string([]byte{byte(b)})
		if want := strings.Contains(good, s); Good(named("0"+s)) != want {
			t.Errorf("Good with the name %q: %v", "0"+s, !want)
		}
	}
}

// P4.1: a disk that is not good is told ahead of every other error.
func TestBadDisk(t *testing.T) {
	for what, d := range bads() {
		for _, name := range []string{"a", "b", "none", "A", "", "f00"} {
			for _, n := range []int{-1, 0, 1, math.MaxInt, math.MinInt} {
				refused(t, what+": Cut", api.ErrRange)(Cut(d, name, n))
				refused(t, what+": Crash", api.ErrRange)(Crash(d, n))
			}
			refused(t, what+": Write", api.ErrRange)(Write(d, name, "s"))
			refused(t, what+": Write, long", api.ErrRange)(Write(d, name, bytes(api.MaxFile+1)))
			refused(t, what+": Sync", api.ErrRange)(Sync(d, name))
			refused(t, what+": Remove", api.ErrRange)(Remove(d, name))
			if s, e := Read(d, name); s != "" || e != api.ErrRange {
				t.Errorf("%s: Read: %.20q, %d", what, s, e)
			}
		}
	}
}

// P4.2: bytes go behind Tail; Safe stays, and so do the other files.
func TestWrite(t *testing.T) {
	d := pair()
	answered(t, "behind a tail", api.Disk{Files: []api.File{{Name: "a", Safe: "one", Tail: "two\x00\xff"}, d.Files[1]}})(Write(d, "a", "\x00\xff"))
	answered(t, "at the last", api.Disk{Files: []api.File{d.Files[0], {Name: "c", Tail: "fourx"}}})(Write(d, "c", "x"))
	answered(t, "nothing", d)(Write(d, "a", ""))
	answered(t, "behind what is safe", api.Disk{Files: []api.File{{Name: "a", Safe: "one", Tail: "two"}}})(Write(api.Disk{Files: []api.File{{Name: "a", Safe: "one"}}}, "a", "two"))
}

// P4.2: a file that is not there is made, in its place, be it of no bytes.
func TestWriteMakes(t *testing.T) {
	a, c := pair().Files[0], pair().Files[1]
	for _, s := range []string{"", "s", bytes(api.MaxFile)} {
		answered(t, "ahead", api.Disk{Files: []api.File{{Name: "0", Tail: s}, a, c}})(Write(pair(), "0", s))
		answered(t, "between", api.Disk{Files: []api.File{a, {Name: "b", Tail: s}, c}})(Write(pair(), "b", s))
		answered(t, "by its opening", api.Disk{Files: []api.File{a, {Name: "a-", Tail: s}, c}})(Write(pair(), "a-", s))
		answered(t, "behind", api.Disk{Files: []api.File{a, c, {Name: "d", Tail: s}}})(Write(pair(), "d", s))
		answered(t, "alone", api.Disk{Files: []api.File{{Name: "a", Tail: s}}})(Write(api.Disk{}, "a", s))
	}
	name := strings.Repeat("z", api.MaxName)
	answered(t, "of the longest name", api.Disk{Files: []api.File{a, c, {Name: name, Tail: "s"}}})(Write(pair(), name, "s"))
}

// P4.2: names that are no step, ahead of a full disk and of too many bytes.
func TestWriteForm(t *testing.T) {
	for _, name := range []string{"", "A", "/", "/a", "a/", "a b", "a\x00", "é", ".", "..", strings.Repeat("a", api.MaxName+1), bytes(1 << 20)} {
		for what, d := range goods() {
			refused(t, what, api.ErrForm)(Write(d, name, "s"))
			refused(t, what, api.ErrForm)(Write(d, name, bytes(api.MaxFile+1)))
		}
	}
}

// P4.2: the last file that may be made, and one more; a full disk is told ahead of too many bytes.
func TestWriteFull(t *testing.T) {
	d := many(api.MaxFiles)
	last := many(api.MaxFiles)
	last.Files[api.MaxFiles-1] = api.File{Name: "f15", Tail: "st"}
	answered(t, "the last file", last)(Write(many(api.MaxFiles-1), "f15", "st"))
	for _, name := range []string{"a", "f", "f00-", "f15-", "z"} {
		refused(t, name, api.ErrFull)(Write(d, name, "s"))
		refused(t, name+", nothing", api.ErrFull)(Write(d, name, ""))
		refused(t, name+", long", api.ErrFull)(Write(d, name, bytes(api.MaxFile+1)))
	}
	for i, f := range d.Files {
		want := many(api.MaxFiles)
		want.Files[i].Tail = "tmore"
		answered(t, "on a full disk", want)(Write(d, f.Name, "more"))
	}
}

// P4.2: as many bytes as may be, and one more.
func TestWriteLong(t *testing.T) {
	for _, safe := range []int{0, 1, api.MaxFile / 2} {
		for _, tail := range []int{0, 1, 77} {
			room := api.MaxFile - safe - tail
			answered(t, "just as many", long(safe, api.MaxFile-safe))(Write(long(safe, tail), "b", bytes(room)))
			refused(t, "one more", api.ErrLong)(Write(long(safe, tail), "b", bytes(room+1)))
		}
	}
	for _, d := range []api.Disk{long(api.MaxFile, 0), long(0, api.MaxFile), long(1, api.MaxFile-1)} {
		answered(t, "nothing to a full file", d)(Write(d, "b", ""))
		refused(t, "a byte to a full file", api.ErrLong)(Write(d, "b", "x"))
	}
	refused(t, "a new file", api.ErrLong)(Write(pair(), "b", bytes(api.MaxFile+1)))
	refused(t, "far too many", api.ErrLong)(Write(api.Disk{}, "b", bytes(4*api.MaxFile)))
}

// P4.3: all of a file is safe; the other files stay.
func TestSync(t *testing.T) {
	d := pair()
	answered(t, "both", api.Disk{Files: []api.File{{Name: "a", Safe: "onetwo"}, d.Files[1]}})(Sync(d, "a"))
	answered(t, "a tail alone", api.Disk{Files: []api.File{d.Files[0], {Name: "c", Safe: "four"}}})(Sync(d, "c"))
	safe := api.Disk{Files: []api.File{{Name: "a", Safe: "one"}, {Name: "b"}}}
	answered(t, "safe already", safe)(Sync(safe, "a"))
	answered(t, "no bytes", safe)(Sync(safe, "b"))
	answered(t, "a full file", long(api.MaxFile, 0))(Sync(long(5, api.MaxFile-5), "b"))
}

// P4.3: a file's bytes, Safe ahead of Tail.
func TestRead(t *testing.T) {
	d := pair()
	d.Files = append(d.Files, api.File{Name: "d", Safe: "\x00\xff"}, api.File{Name: "e"})
	for name, want := range map[string]string{"a": "onetwo", "c": "four", "d": "\x00\xff", "e": ""} {
		if s, e := Read(d, name); s != want || e != api.OK {
			t.Errorf("Read(%q): %q, %d; asked for %q", name, s, e, want)
		}
	}
	if s, e := Read(long(api.MaxFile-3, 3), "b"); len(s) != api.MaxFile || e != api.OK {
		t.Errorf("Read of a full file: %d bytes, %d", len(s), e)
	}
}

// P4.3: every file of a disk is found, wherever it stands.
func TestReadEach(t *testing.T) {
	for n := range api.MaxFiles + 1 {
		d := many(n)
		for i := range d.Files {
			f := &d.Files[i]
			f.Tail = f.Name
			if s, e := Read(d, f.Name); s != "s"+f.Name || e != api.OK {
				t.Errorf("Read(%q) of %d files: %q, %d", f.Name, n, s, e)
			}
		}
	}
}

// P4.4: every number of bytes that a file has, all of them safe then.
func TestCut(t *testing.T) {
	d := pair()
	for n := range len("onetwo") + 1 {
		answered(t, "Cut", api.Disk{Files: []api.File{{Name: "a", Safe: "onetwo"[:n]}, d.Files[1]}})(Cut(d, "a", n))
	}
	for n := range len("four") + 1 {
		answered(t, "Cut of a tail", api.Disk{Files: []api.File{d.Files[0], {Name: "c", Safe: "four"[:n]}}})(Cut(d, "c", n))
	}
	answered(t, "no bytes", named("a"))(Cut(named("a"), "a", 0))
}

// P4.4: numbers that a file hasn't; that there is no such file is told ahead of them.
func TestCutRange(t *testing.T) {
	for _, n := range []int{-1, 7, 8, math.MaxInt, math.MinInt} {
		refused(t, fmt.Sprint(n), api.ErrRange)(Cut(pair(), "a", n))
		refused(t, fmt.Sprint(n), api.ErrNone)(Cut(pair(), "b", n))
	}
	refused(t, "of a tail", api.ErrRange)(Cut(pair(), "c", 5))
	refused(t, "of no bytes", api.ErrRange)(Cut(named("a"), "a", 1))
}

// P4.4: the disk without a file, wherever it stood.
func TestRemove(t *testing.T) {
	for n := 1; n <= api.MaxFiles; n++ {
		for i, f := range many(n).Files {
			want := api.Disk{Files: slices.Delete(many(n).Files, i, i+1)}
			answered(t, f.Name, want)(Remove(many(n), f.Name))
		}
	}
}

// P4.3, P4.4: a file that is not there, be its name a step or not.
func TestNone(t *testing.T) {
	names := []string{"", "0", "A", "a/", "a0", "aa", "z0", strings.Repeat("a", api.MaxName+1), bytes(1 << 20)}
	for what, d := range goods() {
		for _, name := range names {
			if slices.ContainsFunc(d.Files, func(f api.File) bool { return f.Name == name }) {
				continue
			}
			refused(t, what+": Sync", api.ErrNone)(Sync(d, name))
			refused(t, what+": Cut", api.ErrNone)(Cut(d, name, 0))
			refused(t, what+": Remove", api.ErrNone)(Remove(d, name))
			if s, e := Read(d, name); s != "" || e != api.ErrNone {
				t.Errorf("%s: Read(%.20q): %.20q, %d", what, name, s, e)
			}
		}
	}
}

// P4.5: of each file Safe, and the first bytes of Tail.
func TestCrash(t *testing.T) {
	d := api.Disk{Files: []api.File{{Name: "a", Safe: "one", Tail: "two"}, {Name: "b", Safe: "x"}, {Name: "c", Tail: "four"}, {Name: "d"}}}
	for keep, want := range map[int][4]string{
		0:           {"one", "x", "", ""},
		1:           {"onet", "x", "f", ""},
		3:           {"onetwo", "x", "fou", ""},
		4:           {"onetwo", "x", "four", ""},
		5:           {"onetwo", "x", "four", ""},
		math.MaxInt: {"onetwo", "x", "four", ""},
	} {
		after := named("a", "b", "c", "d")
		for i := range after.Files {
			after.Files[i].Safe = want[i]
		}
		answered(t, fmt.Sprint(keep), after)(Crash(d, keep))
	}
	answered(t, "no files", api.Disk{})(Crash(api.Disk{}, 0))
	answered(t, "a full file", long(api.MaxFile, 0))(Crash(long(1, api.MaxFile-1), api.MaxFile))
}

// P4.5: fewer bytes than none.
func TestCrashRange(t *testing.T) {
	for what, d := range goods() {
		for _, keep := range []int{-1, math.MinInt} {
			refused(t, what, api.ErrRange)(Crash(d, keep))
		}
	}
}

// entry is a file of another hand's disk.
type entry struct{ safe, tail string }

// told is another hand's disk as the program tells one.
func told(files map[string]entry) api.Disk {
	var d api.Disk
	for name, f := range files {
		d.Files = append(d.Files, api.File{Name: name, Safe: f.safe, Tail: f.tail})
	}
	slices.SortFunc(d.Files, func(a, b api.File) int { return strings.Compare(a.Name, b.Name) })
	return d
}

// step does one thing to another hand's disk, and to a disk by the program; it answers what the program did.
func step(r *rand.Rand, files map[string]entry, d api.Disk) (api.Disk, api.Errno, api.Errno) {
	name := fmt.Sprint(r.Intn(api.MaxFiles + 4))
	f, there := files[name]
	all, n := f.safe+f.tail, r.Intn(6)
	want := api.OK
	if !there {
		want = api.ErrNone
	}
	change := func(f entry) {
		if want == api.OK {
			files[name] = f
		}
	}
	var e api.Errno
	switch r.Intn(9) {
	case 0:
		change(entry{safe: all})
		d, e = Sync(d, name)
	case 1:
		if there && n > len(all) {
			want = api.ErrRange
		}
		change(entry{safe: all[:min(n, len(all))]})
		d, e = Cut(d, name, n)
	case 2:
		delete(files, name)
		d, e = Remove(d, name)
	case 3:
		want = api.OK
		for name, f := range files {
			files[name] = entry{safe: f.safe + f.tail[:min(n, len(f.tail))]}
		}
		d, e = Crash(d, n)
	default:
		s := strings.Repeat(name, n)
		want = api.OK
		if !there && len(files) == api.MaxFiles {
			want = api.ErrFull
		}
		change(entry{f.safe, f.tail + s})
		d, e = Write(d, name, s)
	}
	return d, e, want
}

// P4.1 to P4.5: long ways of many calls, against a disk by another hand.
func TestWays(t *testing.T) {
	for seed := range 50 {
		r := rand.New(rand.NewSource(int64(seed)))
		files, d := map[string]entry{}, api.Disk{}
		for i := range 400 {
			before := d
			after, e, want := step(r, files, d)
			if e != want {
				t.Fatalf("way %d, step %d: %d; asked for %d", seed, i, e, want)
			}
			if d = after; e != api.OK {
				d = before
			}
			if !alike(d, told(files)) || !Good(d) {
				t.Fatalf("way %d, step %d: %s; asked for %s", seed, i, short(d), short(told(files)))
			}
			for name, f := range files {
				if s, e := Read(d, name); s != f.safe+f.tail || e != api.OK {
					t.Fatalf("way %d, step %d: Read(%q): %q, %d", seed, i, name, s, e)
				}
			}
		}
	}
}

// roomy is the pair with spare room behind it, and all of that room.
func roomy() (api.Disk, []api.File) {
	room := append(pair().Files, api.File{Name: "x", Safe: "spare", Tail: "room"}, api.File{Name: "y"}, api.File{Name: "z"})
	return api.Disk{Files: room[:2]}, room
}

// P4.2 to P4.5: what is handed in is not changed, its spare room neither, and what comes out shares none of it.
func TestApart(t *testing.T) {
	for what, deed := range deeds() {
		d, room := roomy()
		_, asItWas := roomy()
		after, e := deed(d)
		if e != api.OK || !reflect.DeepEqual(room, asItWas) {
			t.Errorf("%s: %d; what was handed in is %v", what, e, room)
		}
		want := slices.Clone(after.Files)
		out := after.Files[:cap(after.Files)]
		for i := range out {
			out[i] = api.File{Name: "changed"}
		}
		if !reflect.DeepEqual(room, asItWas) {
			t.Errorf("%s: what comes out shares memory with what was handed in: %v", what, room)
		}
		if again, _ := deed(d); !slices.Equal(again.Files, want) {
			t.Errorf("%s: a second time: %v; the first time: %v", what, again, want)
		}
	}
}

// P4.2: two disks that are made from one don't meet in its spare room.
func TestTwoFromOne(t *testing.T) {
	d, _ := Write(many(3), "f03", "t")
	one, _ := Write(d, "g", "one")
	two, _ := Write(d, "h", "two")
	if len(d.Files) != 4 || one.Files[4] != (api.File{Name: "g", Tail: "one"}) || two.Files[4] != (api.File{Name: "h", Tail: "two"}) {
		t.Errorf("%v; %v; %v", d, one, two)
	}
}

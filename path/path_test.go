package path

import (
	"math"
	"regexp"
	"slices"
	"strings"
	"testing"

	"aviary/api"
)

// The forms of the document, told a second time in another language.
var (
	stepForm = regexp.MustCompile(`\A[a-z0-9_-]{1,40}\z`)
	pathForm = regexp.MustCompile(`\A(/|(/[a-z0-9_-]{1,40})+)\z`)
)

func isPath(s string) bool { return len(s) <= api.MaxPath && pathForm.MatchString(s) }

// sized is a path of just n bytes (2 or more), of steps that are as long as may be.
func sized(n int) string {
	full := "/" + strings.Repeat("a", api.MaxName)
	s := strings.Repeat(full, n/len(full)) + full[:n%len(full)]
	if strings.HasSuffix(s, "/") {
		return s[:len(s)-2] + "/a"
	}
	return s
}

// shortTexts is all texts of at most n of these letters.
func shortTexts(letters string, n int) []string {
	all := []string{""}
	from := 0
	for range n {
		till := len(all)
		for _, s := range all[from:till] {
			for i := range len(letters) {
				all = append(all, s+letters[i:i+1])
			}
		}
		from = till
	}
	return all
}

// samples is paths and texts that are none, the edges among them.
func samples() []string {
	long := strings.Repeat("x", api.MaxName)
	return append(shortTexts("a0/A", 5),
		"/-", "/_", "/a-b_c/9", "/é", "/a\x00", "/a\n", "/a/b\n", "\n/a", "/a b", "/a.b", "/..", "/.", "a/b", " /a", "/a ",
		"/"+long, "/"+long+"x", "/a/"+long, "/a/"+long+"x/b", "/"+long+"/"+long,
		sized(2), sized(api.MaxPath-1), sized(api.MaxPath), sized(api.MaxPath+1), sized(api.MaxPath+2),
		strings.Repeat("/a", api.MaxPath/2), strings.Repeat("/a", api.MaxPath/2)+"/",
		strings.Repeat("/a", api.MaxPath/2)+"/a", strings.Repeat("/", api.MaxPath),
		strings.Repeat("/a", 1<<19), strings.Repeat("a", 1<<20), strings.Repeat("/", 1<<20))
}

func TestSized(t *testing.T) {
	for n := 2; n <= 2*api.MaxPath; n++ {
		if s := sized(n); len(s) != n || !pathForm.MatchString(s) {
			t.Errorf("sized(%d): %q", n, s)
		}
	}
}

// P1.1: every byte alone, and behind and ahead of a good one.
func TestNamedBytes(t *testing.T) {
	const good = "abcdefghijklmnopqrstuvwxyz0123456789-_"
	for b := range 256 {
		s := string([]byte{byte(b)})
		want := strings.Contains(good, s)
		for _, text := range []string{s, "a" + s, s + "a", "a" + s + "a"} {
			if Named(text) != want {
				t.Errorf("Named(%q): %v", text, !want)
			}
		}
	}
}

// P1.1: every length about the bounds, and far beyond them.
func TestNamedLengths(t *testing.T) {
	for n := range 3 * api.MaxName {
		if want := 1 <= n && n <= api.MaxName; Named(strings.Repeat("z", n)) != want {
			t.Errorf("Named of %d bytes: %v", n, !want)
		}
	}
	if Named(strings.Repeat("a", 1<<20)) {
		t.Error("Named of a million bytes")
	}
	if Named(strings.Repeat("a", api.MaxName-1)+"A") || Named("A"+strings.Repeat("a", api.MaxName-1)) {
		t.Error("Named: a wrong byte at an end")
	}
}

// P1.1: against the form, at many texts.
func TestNamedForm(t *testing.T) {
	for _, s := range samples() {
		if Named(s) != stepForm.MatchString(s) {
			t.Errorf("Named(%.50q): %v", s, Named(s))
		}
	}
}

// P1.2: ordinary paths, the root, and each way not to be a path.
func TestGood(t *testing.T) {
	for _, s := range []string{"/", "/a", "/a/b", "/0/-/_", "/a/a/a", "/x-1/y_2"} {
		if !Good(s) {
			t.Errorf("Good(%q): false", s)
		}
	}
	for _, s := range []string{"", "a", "a/", "a/b", "//", "///", "/a/", "//a", "/a//b", "/a/b/", "/A", "/a/B", "/A/b", "/a.b", "/a b", " /a", "/a\n", "\\a", "/é", "/\xff", "/\x00"} {
		if Good(s) {
			t.Errorf("Good(%q): true", s)
		}
	}
}

// P1.2: the limits of a step and of a path, each by itself.
func TestGoodLengths(t *testing.T) {
	step := strings.Repeat("s", api.MaxName)
	if !Good("/"+step) || !Good("/"+step+"/"+step) || Good("/"+step+"s") || Good("/a/"+step+"s") || Good("/"+step+"s/a") {
		t.Error("Good: steps about MaxName")
	}
	for n := 2; n <= 2*api.MaxPath; n++ {
		if want := n <= api.MaxPath; Good(sized(n)) != want {
			t.Errorf("Good of %d bytes: %v", n, !want)
		}
	}
}

// P1.2: against the form, at many texts.
func TestGoodForm(t *testing.T) {
	for _, s := range samples() {
		if Good(s) != isPath(s) {
			t.Errorf("Good(%.50q): %v", s, Good(s))
		}
	}
}

// P1.3
func TestSplit(t *testing.T) {
	step := strings.Repeat("s", api.MaxName)
	long := sized(api.MaxPath - 2)
	for _, x := range []struct {
		s, dir, step string
		e            api.Errno
	}{
		{"/a", "/", "a", api.OK},
		{"/abc", "/", "abc", api.OK},
		{"/a/b", "/a", "b", api.OK},
		{"/a/a", "/a", "a", api.OK},
		{"/ab/cd/ef", "/ab/cd", "ef", api.OK},
		{"/" + step, "/", step, api.OK},
		{"/a/" + step, "/a", step, api.OK},
		{long + "/z", long, "z", api.OK},
		{"/", "", "", api.ErrNone},
		{"", "", "", api.ErrForm},
		{"a", "", "", api.ErrForm},
		{"a/b", "", "", api.ErrForm},
		{"//", "", "", api.ErrForm},
		{"/a/", "", "", api.ErrForm},
		{"/A/b", "", "", api.ErrForm},
		{"/a/B", "", "", api.ErrForm},
		{"/" + step + "s", "", "", api.ErrForm},
		{long + "/zz", "", "", api.ErrForm},
	} {
		if dir, last, e := Split(x.s); dir != x.dir || last != x.step || e != x.e {
			t.Errorf("Split(%q): %q, %q, %d", x.s, dir, last, e)
		}
	}
}

// P1.3, P1.4: Join puts together what Split took apart; what is no path has ErrForm and nothing beside it.
func TestSplitThenJoin(t *testing.T) {
	for _, s := range samples() {
		dir, step, e := Split(s)
		want := api.OK
		if s == "/" {
			want = api.ErrNone
		} else if !isPath(s) {
			want = api.ErrForm
		}
		if e != want || e != api.OK && dir+step != "" {
			t.Errorf("Split(%.50q): %q, %q, %d", s, dir, step, e)
		}
		if e != api.OK {
			continue
		}
		if again, e := Join(dir, step); again != s || e != api.OK {
			t.Errorf("Join(%q, %q): %q, %d", dir, step, again, e)
		}
	}
}

// P1.4
func TestJoin(t *testing.T) {
	step := strings.Repeat("s", api.MaxName)
	for _, x := range []struct {
		dir, name, s string
		e            api.Errno
	}{
		{"/", "a", "/a", api.OK},
		{"/a", "b", "/a/b", api.OK},
		{"/a/b", "c-1", "/a/b/c-1", api.OK},
		{"/", step, "/" + step, api.OK},
		{sized(api.MaxPath - 2), "z", sized(api.MaxPath-2) + "/z", api.OK},
		{sized(api.MaxPath - 1 - api.MaxName), step, sized(api.MaxPath-1-api.MaxName) + "/" + step, api.OK},
		{"", "a", "", api.ErrForm},
		{"a", "b", "", api.ErrForm},
		{"/a/", "b", "", api.ErrForm},
		{"//", "b", "", api.ErrForm},
		{"/A", "b", "", api.ErrForm},
		{"/", "", "", api.ErrForm},
		{"/a", "", "", api.ErrForm},
		{"/a", "/b", "", api.ErrForm},
		{"/a", "b/c", "", api.ErrForm},
		{"/a", "/", "", api.ErrForm},
		{"/a", "B", "", api.ErrForm},
		{"/a", step + "s", "", api.ErrForm},
		{sized(api.MaxPath - 1), "z", "", api.ErrLong},
		{sized(api.MaxPath), "z", "", api.ErrLong},
		{sized(api.MaxPath - api.MaxName), step, "", api.ErrLong},
	} {
		if s, e := Join(x.dir, x.name); s != x.s || e != x.e {
			t.Errorf("Join(%q, %q): %q, %d", x.dir, x.name, s, e)
		}
	}
}

// P1.4: where a wrong form and a length both apply, the form comes first.
func TestJoinFormFirst(t *testing.T) {
	step := strings.Repeat("s", api.MaxName)
	for _, x := range [][2]string{
		{sized(api.MaxPath), ""},
		{sized(api.MaxPath), "B"},
		{sized(api.MaxPath), step + "s"},
		{sized(api.MaxPath + 1), "z"},
		{sized(api.MaxPath-1) + "/", "z"},
		{"/A" + sized(api.MaxPath-2), "z"},
	} {
		if s, e := Join(x[0], x[1]); s != "" || e != api.ErrForm {
			t.Errorf("Join(%q, %q): %q, %d", x[0], x[1], s, e)
		}
	}
}

// P1.5
func TestDepth(t *testing.T) {
	for _, x := range []struct {
		s string
		n int
		e api.Errno
	}{
		{"/", 0, api.OK},
		{"/a", 1, api.OK},
		{"/abc", 1, api.OK},
		{"/a/b", 2, api.OK},
		{"/a/b/c/d", 4, api.OK},
		{strings.Repeat("/a", api.MaxPath/2), api.MaxPath / 2, api.OK},
		{"", 0, api.ErrForm},
		{"a", 0, api.ErrForm},
		{"a/b", 0, api.ErrForm},
		{"//", 0, api.ErrForm},
		{"/a/", 0, api.ErrForm},
		{"/a//b", 0, api.ErrForm},
		{"/a/B", 0, api.ErrForm},
		{strings.Repeat("/a", api.MaxPath/2+1), 0, api.ErrForm},
	} {
		if n, e := Depth(x.s); n != x.n || e != x.e {
			t.Errorf("Depth(%q): %d, %d", x.s, n, e)
		}
	}
}

// P1.5: a step more is one deeper.
func TestDepthOfJoin(t *testing.T) {
	s := "/"
	for want := 1; ; want++ {
		next, e := Join(s, "x")
		if e != api.OK {
			break
		}
		if n, e := Depth(next); n != want || e != api.OK {
			t.Fatalf("Depth(%q): %d, %d", next, n, e)
		}
		s = next
	}
	if len(s) != api.MaxPath {
		t.Errorf("Join ended at %d bytes", len(s))
	}
}

// P1.5
func TestUnder(t *testing.T) {
	for _, x := range []struct {
		s, top string
		want   bool
	}{
		{"/a", "/", true},
		{"/a/b", "/", true},
		{"/a/b", "/a", true},
		{"/a/b/c", "/a", true},
		{"/a/a", "/a", true},
		{sized(api.MaxPath), "/", true},
		{sized(api.MaxPath-2) + "/z", sized(api.MaxPath - 2), true},
		{"/", "/", false},
		{"/a", "/a", false},
		{"/", "/a", false},
		{"/a", "/a/b", false},
		{"/ab", "/a", false},
		{"/a-b", "/a", false},
		{"/b/a", "/a", false},
		{"/b/c", "/a", false},
		{"/a/", "/a", false},
		{"/a/b/", "/a", false},
		{"/a//b", "/a", false},
		{"/a/B", "/a", false},
		{"/A/b", "/A", false},
		{"/a/b", "/a/", false},
		{"//", "/", false},
		{"", "/", false},
		{"/a", "", false},
		{"a", "", false},
		{"", "", false},
		{"a/b", "a", false},
		{sized(api.MaxPath + 1), "/", false},
		{sized(api.MaxPath) + "/z", sized(api.MaxPath), false},
	} {
		if Under(x.s, x.top) != x.want {
			t.Errorf("Under(%q, %q): %v", x.s, x.top, !x.want)
		}
	}
}

// P1.5, P1.3: what is under a path comes to it by going up, and nothing else does.
func TestUnderGoesUp(t *testing.T) {
	texts := shortTexts("ab/", 5)
	texts = append(texts, "", sized(api.MaxPath), sized(api.MaxPath+1))
	for _, s := range texts {
		var above []string
		for up, _, e := Split(s); e == api.OK; up, _, e = Split(up) {
			above = append(above, up)
		}
		for _, top := range texts {
			if want := slices.Contains(above, top); Under(s, top) != want {
				t.Errorf("Under(%q, %q): %v", s, top, !want)
			}
		}
	}
}

// P1.6
func TestSerial(t *testing.T) {
	room := strings.Repeat("n", api.MaxName-10)
	for _, x := range []struct {
		name string
		n    int
		s    string
		e    api.Errno
	}{
		{"n-", 0, "n-0000000000", api.OK},
		{"n-", 7, "n-0000000007", api.OK},
		{"n-", 1234567890, "n-1234567890", api.OK},
		{"n-", 999999999, "n-0999999999", api.OK},
		{"n-", 1000000000, "n-1000000000", api.OK},
		{"n-", api.MaxCount, "n-2147483647", api.OK},
		{"", 0, "0000000000", api.OK},
		{"", 42, "0000000042", api.OK},
		{"", api.MaxCount, "2147483647", api.OK},
		{"5", 5, "50000000005", api.OK},
		{room, 1, room + "0000000001", api.OK},
		{"n-", -1, "", api.ErrRange},
		{"n-", api.MaxCount + 1, "", api.ErrRange},
		{"n-", math.MaxInt, "", api.ErrRange},
		{"n-", math.MinInt, "", api.ErrRange},
		{"", -1, "", api.ErrRange},
		{"N", 1, "", api.ErrForm},
		{"/", 1, "", api.ErrForm},
		{"/n", 1, "", api.ErrForm},
		{"a/b", 1, "", api.ErrForm},
		{"a b", 1, "", api.ErrForm},
		{"\x00", 1, "", api.ErrForm},
		{room + "n", 1, "", api.ErrForm},
		{room + "n", api.MaxCount, "", api.ErrForm},
		{strings.Repeat("n", api.MaxName), 1, "", api.ErrForm},
		{strings.Repeat("n", 1<<20), 1, "", api.ErrForm},
	} {
		if s, e := Serial(x.name, x.n); s != x.s || e != x.e {
			t.Errorf("Serial(%.50q, %d): %q, %d", x.name, x.n, s, e)
		}
	}
}

// P1.6: where a number out of its bounds and a wrong form both apply, the number comes first.
func TestSerialRangeFirst(t *testing.T) {
	for _, name := range []string{"N", "/", "a/b", strings.Repeat("n", api.MaxName-9), strings.Repeat("n", 1<<20)} {
		for _, n := range []int{math.MinInt, -1, api.MaxCount + 1, math.MaxInt} {
			if s, e := Serial(name, n); s != "" || e != api.ErrRange {
				t.Errorf("Serial(%.50q, %d): %q, %d", name, n, s, e)
			}
		}
	}
}

// P1.6: serials of one name rise with their numbers, so that a line is in order.
func TestSerialRises(t *testing.T) {
	last := ""
	for _, n := range []int{0, 1, 9, 10, 11, 99, 100, 12345, 999999999, 1000000000, api.MaxCount - 1, api.MaxCount} {
		s, e := Serial("q", n)
		if e != api.OK || !Named(s) || len(s) != 11 || s <= last {
			t.Errorf("Serial(q, %d): %q, %d behind %q", n, s, e, last)
		}
		last = s
	}
}

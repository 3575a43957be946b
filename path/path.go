// Package path: see ../../shared/doc/01-path.md.
package path

import (
	"iter"
	"strconv"
	"strings"

	"aviary/api"
)

const (
	root   = "/"
	digits = 10 // of a serial number; as many as MaxCount has
)

// Named is whether a text may be one step of a path.
func Named(s string) bool {
	if len(s) < 1 || len(s) > api.MaxName {
		return false
	}
	for i := range len(s) {
		if !letter(s[i]) {
			return false
		}
	}
	return true
}

func letter(b byte) bool {
	return 'a' <= b && b <= 'z' || '0' <= b && b <= '9' || b == '-' || b == '_'
}

// Good is whether a text is a path.
func Good(s string) bool {
	if len(s) > api.MaxPath || !strings.HasPrefix(s, root) {
		return false
	}
	for step := range steps(s) {
		if !Named(step) {
			return false
		}
	}
	return true
}

// steps yields what stands behind each slash of a text that begins with one.
// The root is apart: a split of what is behind its slash would give an empty step.
func steps(s string) iter.Seq[string] {
	return func(yield func(string) bool) {
		if s == root {
			return
		}
		for step := range strings.SplitSeq(strings.TrimPrefix(s, root), root) {
			if !yield(step) {
				return
			}
		}
	}
}

// Split is a path's parent and its last step. Both are copies: an answer shares no memory with what was handed in.
func Split(s string) (string, string, api.Errno) {
	if !Good(s) {
		return "", "", api.ErrForm
	}
	if s == root {
		return "", "", api.ErrNone
	}
	slash := strings.LastIndexByte(s, '/')
	dir, step := strings.Clone(s[:slash]), strings.Clone(s[slash+1:])
	if dir == "" {
		dir = root
	}
	return dir, step, api.OK
}

// Join is the path of a step below a path.
func Join(dir, name string) (string, api.Errno) {
	if !Good(dir) || !Named(name) {
		return "", api.ErrForm
	}
	s := opening(dir) + name
	if len(s) > api.MaxPath {
		return "", api.ErrLong
	}
	return s, api.OK
}

// opening is what all paths below a path begin with; the root has its slash already.
func opening(dir string) string {
	if dir == root {
		return root
	}
	return dir + root
}

// Depth is how many steps a path has.
func Depth(s string) (int, api.Errno) {
	if !Good(s) {
		return 0, api.ErrForm
	}
	n := 0
	for range steps(s) {
		n++
	}
	return n, api.OK
}

// Under is whether a path lies below another one.
func Under(s, top string) bool {
	return Good(s) && Good(top) && s != top && strings.HasPrefix(s, opening(top))
}

// Serial is a step with a number of ten digits behind it.
func Serial(name string, n int) (string, api.Errno) {
	if n < 0 || n > api.MaxCount {
		return "", api.ErrRange
	}
	number := strconv.Itoa(n)
	step := name + strings.Repeat("0", digits-len(number)) + number
	if !Named(step) {
		return "", api.ErrForm
	}
	return step, api.OK
}

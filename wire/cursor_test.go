package wire

import (
	"encoding/binary"
	"math"
	"testing"
)

// P3.3: bytes of a number, the highest first; of one below 0 those of its two's complement.
func TestNumber(t *testing.T) {
	for _, n := range []int{math.MinInt, -1 << 32, -256, -1, 0, 1, 255, 256, 0x0102030405060708, math.MaxInt} {
		all := string(binary.BigEndian.AppendUint64(nil, uint64(n)))
		for size := range 9 {
			if s := Number(n, size); s != all[8-size:] {
				t.Errorf("Number(%d, %d): %x", n, size, s)
			}
		}
		if got := Along(all).Number(8); got != n {
			t.Errorf("8 bytes of %d tell %d", n, got)
		}
		if s := Number(n, -1); s != "" {
			t.Errorf("Number(%d, -1): %x", n, s)
		}
	}
}

// P3.4: a cursor goes on, and tells what is left.
func TestCursor(t *testing.T) {
	c := Along("ab\x01\x02rest")
	if s := c.Text(2); s != "ab" || c.Left() != 6 || c.Short() {
		t.Errorf("%q, %d, %t", s, c.Left(), c.Short())
	}
	if n := c.Number(2); n != 0x0102 || c.Left() != 4 || c.Short() {
		t.Errorf("%d, %d, %t", n, c.Left(), c.Short())
	}
	if s := c.Text(0); s != "" || c.Left() != 4 || c.Short() {
		t.Errorf("%q, %d, %t", s, c.Left(), c.Short())
	}
	if s := c.Text(4); s != "rest" || c.Left() != 0 || c.Short() {
		t.Errorf("%q, %d, %t", s, c.Left(), c.Short())
	}
	if s := c.Text(0); s != "" || c.Short() {
		t.Errorf("%q, %t", s, c.Short())
	}
}

// P3.4: a cursor is short from the first piece on that is not there, and nothing is found behind that.
func TestCursorShort(t *testing.T) {
	for _, n := range []int{math.MinInt, -1, 4, 5, math.MaxInt} {
		c := Along("abc")
		c.Text(n)
		if !c.Short() || c.Left() != 0 || c.Text(1) != "" || c.Number(8) != 0 || !c.Short() {
			t.Errorf("of 3 bytes %d: %d, %t", n, c.Left(), c.Short())
		}
	}
}

package wire

// Cursor goes on through a text, piece by piece; other layers that tell things as bytes read them by it, too.
// It notes that a piece was wanted which is not there, so that many pieces can be taken ahead of one question.
type Cursor struct {
	rest  string
	short bool
}

// Along is a cursor at a text's beginning.
func Along(s string) *Cursor { return &Cursor{rest: s} }

// Text takes the next n bytes. Where there are not so many it takes all, so that no later piece is found in their place.
func (c *Cursor) Text(n int) string {
	if n < 0 || n > len(c.rest) {
		c.short = true
		n = len(c.rest)
	}
	piece := c.rest[:n]
	c.rest = c.rest[n:]
	return piece
}

// Number takes the number that the next n bytes tell, the highest first.
func (c *Cursor) Number(n int) int {
	piece := c.Text(n)
	told := 0
	for i := range len(piece) {
		told = told<<8 | int(piece[i])
	}
	return told
}

// Short is whether a piece was wanted that is not there.
func (c *Cursor) Short() bool { return c.short }

// Left is how many bytes are still to be taken.
func (c *Cursor) Left() int { return len(c.rest) }

package wire

// cursor goes on through a text, piece by piece.
// It notes that a piece was wanted which is not there, so that many pieces can be taken ahead of one question.
type cursor struct {
	rest  string
	short bool
}

// text takes the next n bytes. Where there are fewer it takes them all, so that no later piece is found in their place.
func (c *cursor) text(n int) string {
	if n > len(c.rest) {
		c.short = true
		n = len(c.rest)
	}
	piece := c.rest[:n]
	c.rest = c.rest[n:]
	return piece
}

// number takes the number that the next n bytes tell, the highest first.
func (c *cursor) number(n int) int {
	piece := c.text(n)
	told := 0
	for i := range len(piece) {
		told = told<<8 | int(piece[i])
	}
	return told
}

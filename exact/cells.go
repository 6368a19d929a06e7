package exact

// nearby is how many cells a list has without memory of its own: most numbers of a search are so short.
const nearby = 4

// cells is a list of cells. A short one stands in the array, a longer one grows out of it.
// A list is filled once, behind room, and not changed any more when it has been copied: copies share the far cells.
type cells[T any] struct {
	near [nearby]T
	far  []T
	used int
}

// room makes the list n zero cells long, and returns them.
func (c *cells[T]) room(n int) []T {
	c.used = n
	if n > nearby {
		c.far = make([]T, n)
	}
	return c.list()
}

// list returns the cells.
func (c *cells[T]) list() []T {
	if c.far != nil {
		return c.far[:c.used]
	}
	return c.near[:c.used]
}

// cut leaves the first n cells.
func (c *cells[T]) cut(n int) {
	c.used = n
}

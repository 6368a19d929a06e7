package water

import (
	"iter"
	"sync"

	"underpin/api"
)

// workers is how many corners are worked on at a time.
const workers = 8

// extent returns the least and the greatest of what is asked of the heads of a net, which has no error, for all
// conductances between its Lows and Highs. What is asked must be a sum of multiples of heads: then both are at corners.
func extent(n api.Net, asked func(heads []amount) amount) (low, high api.Frac, e api.Errno) {
	loose := loosePipes(n)
	if len(loose) > api.MaxLoose {
		return "", "", api.ErrScope
	}
	for value := range atCorners(n, loose, asked) {
		if low == "" || greater(low, value) {
			low = value
		}
		if high == "" || greater(value, high) {
			high = value
		}
	}
	return low, high, api.OK
}

// loosePipes returns the numbers of the pipes whose conductance is not known exactly.
func loosePipes(n api.Net) []int {
	var loose []int
	for i, p := range n.Pipes {
		if p.Low != p.High {
			loose = append(loose, i)
		}
	}
	return loose
}

// corners tells all conductances of a net at which each pipe has its Low or its High.
func corners(n api.Net, loose []int) iter.Seq[[]amount] {
	return func(yield func([]amount) bool) {
		for highs := range 1 << len(loose) {
			var cond []amount
			for _, p := range n.Pipes {
				cond = append(cond, amount(p.Low))
			}
			for k, i := range loose {
				if highs>>k&1 == 1 {
					cond[i] = amount(n.Pipes[i].High)
				}
			}
			if !yield(cond) {
				return
			}
		}
	}
}

// atCorners returns a channel that tells what is asked of the heads at each corner. They come in whatever order. The
// channel is closed when all goroutines that work on it are done, so that it must be read to its end.
func atCorners(n api.Net, loose []int, asked func(heads []amount) amount) <-chan api.Frac {
	work, found := make(chan []amount), make(chan api.Frac)
	var busy sync.WaitGroup
	for range workers {
		busy.Add(1)
		go func() {
			defer busy.Done()
			for cond := range work {
				found <- api.Frac(asked(headsAt(n, cond)))
			}
		}()
	}
	go func() {
		for cond := range corners(n, loose) {
			work <- cond
		}
		close(work)
		busy.Wait()
		close(found)
	}()
	return found
}

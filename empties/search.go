package empties

import (
	"iter"
	"math"

	"thalweg/api"
)

const (
	none = -1          // the number of no port
	far  = math.MaxInt // the cost of a port to which no route is known
)

// arc is how hulls come from one port to another one: more of them go a way, or fewer go it in the other direction.
type arc struct {
	way, from, to int
	change        int // of the moves of the way, for each hull
	cost          int // for each hull
	room          int // for how many hulls
}

// search is a market whose moves are completed step by step.
type search struct {
	market
	touching [][]int // the ways from and to each port
}

// newSearch returns the search for moves in a valid net. As long as nothing moves, prices of 0 prove that nothing costs less.
func newSearch(n api.EmptyNet) search {
	s := search{
		market:   market{n, make([]int, len(n.Ways)), make([]int, len(n.Ports))},
		touching: make([][]int, len(n.Ports)),
	}
	for i, w := range n.Ways {
		s.touching[w.From] = append(s.touching[w.From], i)
		s.touching[w.To] = append(s.touching[w.To], i)
	}
	return s
}

// arcs yields the arcs of a way for which there is room.
func (m market) arcs(way int) iter.Seq[arc] {
	return func(yield func(arc) bool) {
		w, moved := m.Ways[way], m.moves[way]
		if moved < w.Room && !yield(arc{way, w.From, w.To, 1, w.Cost, w.Room - moved}) {
			return
		}
		if moved > 0 {
			yield(arc{way, w.To, w.From, -1, -w.Cost, moved})
		}
	}
}

// routes are the cheapest ways to each port from any one that has hulls to spare. What they cost is counted from the prices on, so that no arc costs less than 0.
type routes struct {
	costs  []int
	last   []arc  // the last arc to each port
	closed []bool // whether no cheaper route can be found
}

// beginnings returns what one hull more costs in the ports that have hulls to spare.
func beginnings(spare []int) map[int]int {
	costs := map[int]int{}
	for port, hulls := range spare {
		if hulls > 0 {
			costs[port] = 0
		}
	}
	return costs
}

// newRoutes returns the routes without an arc, for a number of ports.
func newRoutes(begin map[int]int, ports int) routes {
	r := routes{make([]int, ports), make([]arc, ports), make([]bool, ports)}
	for port := range ports {
		r.costs[port] = far
		if cost, found := begin[port]; found {
			r.costs[port] = cost
		}
	}
	return r
}

// next returns the cheapest port that is not closed, or none if there is no route to one.
func (r routes) next() int {
	best := none
	for port, cost := range r.costs {
		if !r.closed[port] && cost != far && (best == none || cost < r.costs[best]) {
			best = port
		}
	}
	return best
}

// follow closes a port, and makes the routes cheaper that it can make so.
func (s search) follow(r routes, port int) {
	r.closed[port] = true
	for _, way := range s.touching[port] {
		for a := range s.arcs(way) {
			cost := r.costs[port] + a.cost + s.prices[a.from] - s.prices[a.to]
			if a.from == port && cost < r.costs[a.to] {
				r.costs[a.to], r.last[a.to] = cost, a
			}
		}
	}
}

// find returns the routes until one comes to a port that lacks hulls, and this port, or none.
func (s search) find(spare []int) (routes, int) {
	r := newRoutes(beginnings(spare), len(spare))
	port := r.next()
	for port != none && spare[port] >= 0 {
		s.follow(r, port)
		port = r.next()
	}
	return r, port
}

// back yields the arcs of the route to a port, the last one first.
func (r routes) back(port int) iter.Seq[arc] {
	return func(yield func(arc) bool) {
		for a := r.last[port]; a.room > 0; a = r.last[a.from] {
			if !yield(a) {
				return
			}
		}
	}
}

// send moves as many hulls as there is room for on the route to a port that lacks them. The prices rise before, so that they go on proving that the same moves cannot be made for less.
func (s search) send(r routes, spare []int, to int) {
	for port, cost := range r.costs {
		s.prices[port] += min(cost, r.costs[to])
	}
	first, hulls := to, -spare[to]
	for a := range r.back(to) {
		first, hulls = a.from, min(hulls, a.room)
	}
	hulls = min(hulls, spare[first])
	for a := range r.back(to) {
		s.moves[a.way] += a.change * hulls
	}
}

// settle brings hulls where they lack, at the least cost, until no more can be brought. It returns the market with these moves, and what each port then has to spare.
func settle(n api.EmptyNet) (market, []int) {
	s := newSearch(n)
	for {
		spare := s.spare()
		r, to := s.find(spare)
		if to == none {
			return s.market, spare
		}
		s.send(r, spare, to)
	}
}

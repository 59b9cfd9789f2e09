package empties

import (
	"slices"

	"thalweg/api"
	"thalweg/numbers"
)

// Move returns moves with the least cost, and prices that prove it.
func Move(n api.EmptyNet) (moves []int, cost int, prices []int, e api.Errno) {
	if e := Check(n); e != api.OK {
		return nil, 0, nil, e
	}
	m, spare := settle(n)
	if slices.Min(spare) < 0 {
		return nil, 0, nil, api.ErrNone
	}
	return m.moves, m.cost(), m.prices, api.OK
}

// More returns how much is saved with one hull more in a port.
func More(n api.EmptyNet, port int) (int, api.Errno) {
	if e := Check(n); e != api.OK {
		return 0, e
	}
	if !numbers.Within(0, len(n.Ports)-1, port) {
		return 0, api.ErrNone
	}
	if n.Ports[port].Has == api.MaxEmptyHulls {
		return 0, api.ErrFull
	}
	_, before, _, e := Move(n)
	if e != api.OK {
		return 0, api.ErrState
	}
	n.Ports = slices.Clone(n.Ports)
	n.Ports[port].Has++
	_, after, _, e := Move(n)
	return before - after, e
}

// suppliers returns for each port whether a hull more there could be brought where hulls lack.
func (m market) suppliers(spare []int) []bool {
	list := make([]bool, len(spare))
	for port, hulls := range spare {
		list[port] = hulls < 0
	}
	for changed := true; changed; {
		changed = false
		for way := range len(m.Ways) {
			for a := range m.arcs(way) {
				if list[a.to] && !list[a.from] {
					list[a.from], changed = true, true
				}
			}
		}
	}
	return list
}

// Lacks returns the ports that lack most hulls. They are those from which hulls could be brought where some lack: none of them has any to spare, each way to them from other ports is full, and on none from them to others does anything move. So what still lacks is their lack.
func Lacks(n api.EmptyNet) (ports []int, lack int, e api.Errno) {
	if e := Check(n); e != api.OK {
		return nil, 0, e
	}
	m, spare := settle(n)
	for port, supplies := range m.suppliers(spare) {
		if supplies {
			ports = append(ports, port)
			lack -= spare[port]
		}
	}
	return ports, lack, api.OK
}

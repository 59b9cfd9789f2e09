package empties

import (
	"thalweg/api"
	"thalweg/numbers"
)

// market is a valid net with moves and prices.
type market struct {
	api.EmptyNet
	moves  []int
	prices []int
}

// spare returns how many hulls each port has after the moves, less those that it wants.
func (m market) spare() []int {
	hulls := make([]int, len(m.Ports))
	for i, p := range m.Ports {
		hulls[i] = p.Has - p.Wants
	}
	for i, w := range m.Ways {
		hulls[w.From] -= m.moves[i]
		hulls[w.To] += m.moves[i]
	}
	return hulls
}

// gain returns what a hull is worth at the end of a way more than at its beginning, less what the way costs.
func (m market) gain(w api.EmptyWay) int {
	return m.prices[w.To] - m.prices[w.From] - w.Cost
}

// checkMoves returns the error of the moves.
func (m market) checkMoves() api.Errno {
	if len(m.moves) != len(m.Ways) {
		return api.ErrForm
	}
	for i, w := range m.Ways {
		if !numbers.Within(0, w.Room, m.moves[i]) {
			return api.ErrRange
		}
	}
	if !numbers.Every(m.spare(), func(hulls int) bool { return hulls >= 0 }) {
		return api.ErrState
	}
	return api.OK
}

// checkPrices returns the error of the prices.
func (m market) checkPrices() api.Errno {
	if len(m.prices) != len(m.Ports) {
		return api.ErrForm
	}
	if !numbers.Within(0, api.MaxEmptyPrice, m.prices...) {
		return api.ErrRange
	}
	return api.OK
}

// cost returns what the moves cost.
func (m market) cost() int {
	sum := 0
	for i, w := range m.Ways {
		sum += w.Cost * m.moves[i]
	}
	return sum
}

// bound returns what possible moves cost at least, by the prices.
func (m market) bound() int {
	sum := 0
	for i, p := range m.Ports {
		sum += m.prices[i] * (p.Wants - p.Has)
	}
	for _, w := range m.Ways {
		sum -= w.Room * max(0, m.gain(w))
	}
	return sum
}

// proved reports whether the prices prove the moves.
func (m market) proved() bool {
	for i, w := range m.Ways {
		gain := m.gain(w)
		if gain < 0 && m.moves[i] != 0 || gain > 0 && m.moves[i] != w.Room {
			return false
		}
	}
	for i, hulls := range m.spare() {
		if hulls > 0 && m.prices[i] != 0 {
			return false
		}
	}
	return true
}

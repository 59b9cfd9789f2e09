package wash

import "thalweg/api"

// remains is what is left of a cargo.
type remains struct {
	residue int
	loads   int // how many cargoes were loaded since it was, itself included, but no more than any rule asks for; 0 if it never was
}

// tank is what is left of each cargo in a tank.
type tank [api.MaxCargoKinds]remains

// reduced returns a tank in which each residue is reduced by a number.
func (t tank) reduced(number int) tank {
	for cargo := range t {
		t[cargo].residue = max(0, t[cargo].residue-number)
	}
	return t
}

// loaded returns a tank in which a cargo was loaded that leaves a residue.
func (t tank) loaded(cargo, residue int) tank {
	for other := range t {
		if t[other].loads > 0 {
			t[other].loads = min(t[other].loads+1, api.MaxApart+1)
		}
	}
	t[cargo] = remains{residue: residue, loads: 1}
	return t
}

// after returns a tank after some events, each of which truly has the number within its bounds that is told.
func (r rules) after(t tank, told func(api.Bounds) int, events ...api.TankEvent) tank {
	for _, e := range events {
		if e.Kind == api.TankWash {
			t = t.reduced(told(r.Kinds[e.Number].Power))
		} else {
			t = t.reduced(told(r.Fade)).loaded(e.Number, r.Levels[e.Number])
		}
	}
	return t
}

// foulest returns a tank after some events that reduce residues as little as they can.
func (r rules) foulest(t tank, events ...api.TankEvent) tank {
	return r.after(t, func(b api.Bounds) int { return b.Low }, events...)
}

// cleanest returns a tank after some events that reduce residues as much as they can.
func (r rules) cleanest(t tank, events ...api.TankEvent) tank {
	return r.after(t, func(b api.Bounds) int { return b.High }, events...)
}

// bars reports whether a cargo is not acceptable in a tank because of what is left of another one, or of itself.
func (r rules) bars(t tank, left, cargo int) bool {
	x := t[left]
	return x.loads > 0 && (x.residue > r.Allow[left][cargo] || x.loads-1 < r.Apart[left][cargo])
}

// accepts reports whether a cargo is acceptable in a tank.
func (r rules) accepts(t tank, cargo int) bool {
	for left := range r.Levels {
		if r.bars(t, left, cargo) {
			return false
		}
	}
	return true
}

// Residues returns the bounds of the residue of each cargo after a history.
func Residues(r api.WashRules, l []api.TankEvent) ([]api.Bounds, api.Errno) {
	valid, e := newRules(r, l)
	if e != api.OK {
		return nil, e
	}
	least, most := valid.cleanest(tank{}, l...), valid.foulest(tank{}, l...)
	residues := make([]api.Bounds, len(r.Levels))
	for cargo := range residues {
		residues[cargo] = api.Bounds{Low: least[cargo].residue, High: most[cargo].residue}
	}
	return residues, api.OK
}

// May reports whether a cargo is surely, and possibly, acceptable after a history.
func May(r api.WashRules, l []api.TankEvent, cargo int) (surely, possibly bool, e api.Errno) {
	valid, e := newRules(r, l)
	if e != api.OK {
		return false, false, e
	}
	if !valid.hasCargo(cargo) {
		return false, false, api.ErrNone
	}
	return valid.accepts(valid.foulest(tank{}, l...), cargo), valid.accepts(valid.cleanest(tank{}, l...), cargo), api.OK
}

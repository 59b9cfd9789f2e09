package wash_test

import (
	"slices"
	"testing"

	"thalweg/api"
	"thalweg/wash"
)

// great returns rules in which everything is as great as it may be.
func great() api.WashRules {
	greatest := api.WashKind{Power: at(1000000), Minutes: 10000, Water: 10000, Cost: 100000000}
	return api.WashRules{
		Levels: slices.Repeat([]int{1000000}, 8), Fade: at(1000000),
		Allow: square(8, 1000000), Apart: square(8, 10),
		Kinds: slices.Repeat([]api.WashKind{greatest}, 4),
	}
}

// least returns rules in which everything is as small as it may be.
func least() api.WashRules {
	return api.WashRules{Levels: []int{0}, Allow: square(1, 0), Apart: square(1, 0)}
}

// P5.1: rules that are valid, up to the limits.
func TestValidRules(t *testing.T) {
	for name, r := range map[string]api.WashRules{
		"the example":  example(),
		"great":        great(),
		"least":        least(),
		"a still kind": changed(func(r *api.WashRules) { r.Kinds[0] = api.WashKind{} }),
		"no kinds":     changed(func(r *api.WashRules) { r.Kinds = nil }),
		"wide bounds":  changed(func(r *api.WashRules) { r.Fade, r.Kinds[1].Power = to(0, 1000000), to(0, 1000000) }),
	} {
		if e := wash.Check(r); e != api.OK {
			t.Errorf("%s: error %d", name, e)
		}
		expect(t, name+": Residues", residues(r, events(load(0))), api.OK)
	}
}

// invalid returns rules with one thing that is not valid, by its name.
func invalid() map[string]api.WashRules {
	return map[string]api.WashRules{
		"nothing":               {},
		"no cargoes":            {Levels: []int{}, Allow: [][]int{}, Apart: [][]int{}},
		"9 cargoes":             {Levels: make([]int, 9), Allow: square(9, 0), Apart: square(9, 0)},
		"level -1":              changed(func(r *api.WashRules) { r.Levels[2] = -1 }),
		"level 1000001":         changed(func(r *api.WashRules) { r.Levels[0] = 1000001 }),
		"a level less":          changed(func(r *api.WashRules) { r.Levels = r.Levels[:2] }),
		"a level more":          changed(func(r *api.WashRules) { r.Levels = append(r.Levels, 1) }),
		"fade upside down":      changed(func(r *api.WashRules) { r.Fade = to(11, 10) }),
		"fade -1":               changed(func(r *api.WashRules) { r.Fade = to(-1, 10) }),
		"fade 1000001":          changed(func(r *api.WashRules) { r.Fade = to(0, 1000001) }),
		"no allow":              changed(func(r *api.WashRules) { r.Allow = nil }),
		"an allow less":         changed(func(r *api.WashRules) { r.Allow = r.Allow[:2] }),
		"an allow more":         changed(func(r *api.WashRules) { r.Allow = append(r.Allow, []int{1, 1, 1}) }),
		"a short allow":         changed(func(r *api.WashRules) { r.Allow[1] = r.Allow[1][:2] }),
		"a long allow":          changed(func(r *api.WashRules) { r.Allow[2] = append(r.Allow[2], 1) }),
		"an empty allow":        changed(func(r *api.WashRules) { r.Allow[2] = nil }),
		"allow -1":              changed(func(r *api.WashRules) { r.Allow[2][2] = -1 }),
		"allow 1000001":         changed(func(r *api.WashRules) { r.Allow[0][1] = 1000001 }),
		"no apart":              changed(func(r *api.WashRules) { r.Apart = nil }),
		"an apart less":         changed(func(r *api.WashRules) { r.Apart = r.Apart[1:] }),
		"an apart more":         changed(func(r *api.WashRules) { r.Apart = append(r.Apart, []int{1, 1, 1}) }),
		"a short apart":         changed(func(r *api.WashRules) { r.Apart[0] = r.Apart[0][:2] }),
		"a long apart":          changed(func(r *api.WashRules) { r.Apart[2] = append(r.Apart[2], 1) }),
		"apart -1":              changed(func(r *api.WashRules) { r.Apart[1][0] = -1 }),
		"apart 11":              changed(func(r *api.WashRules) { r.Apart[2][0] = 11 }),
		"5 kinds":               changed(func(r *api.WashRules) { r.Kinds = make([]api.WashKind, 5) }),
		"power upside down":     changed(func(r *api.WashRules) { r.Kinds[1].Power = to(5, 4) }),
		"power -1":              changed(func(r *api.WashRules) { r.Kinds[0].Power = to(-1, 4) }),
		"power 1000001":         changed(func(r *api.WashRules) { r.Kinds[1].Power = at(1000001) }),
		"minutes -1":            changed(func(r *api.WashRules) { r.Kinds[0].Minutes = -1 }),
		"minutes 10001":         changed(func(r *api.WashRules) { r.Kinds[1].Minutes = 10001 }),
		"water -1":              changed(func(r *api.WashRules) { r.Kinds[1].Water = -1 }),
		"water 10001":           changed(func(r *api.WashRules) { r.Kinds[0].Water = 10001 }),
		"cost -1":               changed(func(r *api.WashRules) { r.Kinds[0].Cost = -1 }),
		"cost 100000001":        changed(func(r *api.WashRules) { r.Kinds[1].Cost = 100000001 }),
		"the last kind invalid": changed(func(r *api.WashRules) { r.Kinds = append(r.Kinds, api.WashKind{Cost: -1}) }),
	}
}

// P5.1: ErrArg unless the rules are valid, from every function, before any other error.
func TestInvalidRules(t *testing.T) {
	long := slices.Repeat(events(load(9)), 101)
	for name, r := range invalid() {
		if e := wash.Check(r); e != api.ErrArg {
			t.Errorf("%s: error %d", name, e)
		}
		expectAll(t, name, r, nil, api.ErrArg)
		expectAll(t, name, r, long, api.ErrArg)
		expect(t, name+": Fleet", fleet(r, make([][]api.TankEvent, 4), nil), api.ErrArg)
		expect(t, name+": Fleet", fleet(r, nil, nil), api.ErrArg)
		expect(t, name+": Verify", verify(r, make([][]api.TankEvent, 4), nil, nil), api.ErrArg)
		expect(t, name+": Verify", verify(r, nil, nil, nil), api.ErrArg)
	}
}

// The errors of a history: ErrLong, then ErrArg, before those of later arguments.
func TestErrorsOfHistories(t *testing.T) {
	good := slices.Repeat(events(load(0), clean(1)), 50)
	expectAll(t, "101 events", example(), append(good, load(0)), api.ErrLong)
	expectAll(t, "101 events, one invalid", example(), append(events(load(3)), good...), api.ErrLong)
	for name, bad := range map[string]api.TankEvent{
		"no event": {}, "kind -1": {Kind: -1}, "kind 3": {Kind: 3}, "kind 0": {Number: 1},
		"cargo -1": load(-1), "cargo 3": load(3), "cleaning -1": clean(-1), "cleaning 2": clean(2),
	} {
		expectAll(t, name, example(), events(bad), api.ErrArg)
		expectAll(t, name+", at the end", example(), append(slices.Clone(good[:99]), bad), api.ErrArg)
	}
	noKinds := changed(func(r *api.WashRules) { r.Kinds = nil })
	expectAll(t, "no kinds", noKinds, events(clean(0)), api.ErrArg)
	expect(t, "100 events", residues(example(), good), api.OK)
	expect(t, "100 events", plan(example(), good, nil), api.OK)
	expect(t, "100 events in each tank", fleet(example(), histories(good, good, good), nil), api.OK)
	expect(t, "the last cargo and kind", residues(example(), events(load(2), clean(1))), api.OK)
}

// P5.3: ErrNone unless the rules have the cargo.
func TestErrorsOfMay(t *testing.T) {
	for _, cargo := range []int{-1, 3, 8} {
		expect(t, "May", may(example(), events(load(0)), cargo), api.ErrNone)
	}
	expect(t, "May", may(example(), nil, 2), api.OK)
}

// P5.7 and P5.8: ErrLong if there are more than 10 cargoes, ErrArg unless the rules have each of them, and only then ErrNone.
func TestErrorsOfPlan(t *testing.T) {
	for name, x := range map[string]struct {
		jobs []int
		e    api.Errno
	}{
		"11 cargoes":              {slices.Repeat([]int{0}, 11), api.ErrLong},
		"11 cargoes, none valid":  {slices.Repeat([]int{-1}, 11), api.ErrLong},
		"cargo -1":                {[]int{-1}, api.ErrArg},
		"cargo 3 at the end":      {[]int{0, 2, 3}, api.ErrArg},
		"cargo 3 after no plan":   {[]int{1, 3}, api.ErrArg},
		"10 cargoes, last not":    {append(slices.Repeat([]int{0}, 9), 8), api.ErrArg},
		"10 cargoes are not long": {slices.Repeat([]int{0}, 10), api.OK},
	} {
		expect(t, name+": Plan", plan(example(), events(load(0)), x.jobs), x.e)
		expect(t, name+": Fewest", fewest(example(), events(load(0)), x.jobs), x.e)
	}
}

// P5.9 and P5.10: the errors of Fleet and Verify, in their order.
func TestErrorsOfFleet(t *testing.T) {
	long, bad := slices.Repeat(events(load(9)), 101), events(load(9))
	many, wrong := make([]int, 7), []int{0, 3}
	for name, x := range map[string]struct {
		tanks [][]api.TankEvent
		jobs  []int
		e     api.Errno
	}{
		"4 tanks":                {histories(nil, nil, nil, nil), []int{0}, api.ErrLong},
		"4 tanks, one invalid":   {histories(bad, nil, nil, nil), many, api.ErrLong},
		"no tanks":               {nil, []int{0}, api.ErrForm},
		"no tanks, and more":     {nil, many, api.ErrForm},
		"a long history":         {histories(nil, nil, long), []int{0}, api.ErrLong},
		"invalid, then long":     {histories(bad, long), many, api.ErrArg},
		"long, then invalid":     {histories(nil, long, bad), many, api.ErrLong},
		"an invalid history":     {histories(nil, bad), many, api.ErrArg},
		"7 cargoes":              {histories(nil, nil), many, api.ErrLong},
		"7 cargoes, one invalid": {histories(nil), []int{8, 0, 0, 0, 0, 0, 0}, api.ErrLong},
		"cargo 3":                {histories(nil), wrong, api.ErrArg},
		"cargo -1":               {histories(nil), []int{-1}, api.ErrArg},
		"cargo 3 after no plan":  {histories(events(load(0))), []int{1, 3}, api.ErrArg},
	} {
		expect(t, name+": Fleet", fleet(example(), x.tanks, x.jobs), x.e)
		expect(t, name+": Verify", verify(example(), x.tanks, x.jobs, nil), x.e)
		expect(t, name+": Verify", verify(example(), x.tanks, x.jobs, steps(step(7, 7))), x.e)
	}
	expect(t, "6 cargoes in 3 tanks", fleet(example(), histories(nil, nil, nil), make([]int, 6)), api.OK)
}

// P5.10: ErrForm unless there are as many steps as cargoes, then ErrArg unless each step has a tank, and a kind or -1.
func TestErrorsOfVerify(t *testing.T) {
	tanks, jobs := histories(events(load(0)), nil), []int{1, 0}
	for name, x := range map[string]struct {
		steps []api.WashStep
		e     api.Errno
	}{
		"no steps":            {nil, api.ErrForm},
		"one step":            {steps(step(0, -1)), api.ErrForm},
		"three steps":         {steps(step(0, -1), step(0, -1), step(0, -1)), api.ErrForm},
		"three, one invalid":  {steps(step(0, -1), step(-1, -2), step(0, -1)), api.ErrForm},
		"tank -1":             {steps(step(1, -1), step(-1, -1)), api.ErrArg},
		"tank 2":              {steps(step(1, -1), step(2, -1)), api.ErrArg},
		"kind -2":             {steps(step(1, -2), step(1, -1)), api.ErrArg},
		"kind 2":              {steps(step(1, -1), step(1, 2)), api.ErrArg},
		"not acceptable, too": {steps(step(0, -1), step(1, 2)), api.ErrArg},
		"the last ones":       {steps(step(1, 1), step(1, 1)), api.OK},
	} {
		expect(t, name, verify(example(), tanks, jobs, x.steps), x.e)
	}
	expect(t, "steps without cargoes", verify(example(), tanks, nil, steps(step(0, 0))), api.ErrForm)
	expect(t, "no steps, no cargoes", verify(example(), tanks, nil, nil), api.OK)
}

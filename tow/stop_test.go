package tow_test

import (
	"math/big"
	"testing"

	"thalweg/api"
	"thalweg/tow"
)

// P3.3 and example 3: how many meters tows need.
func TestStop(t *testing.T) {
	for name, c := range map[string]struct {
		mass, power int
		grip        api.Bounds
		speed       int
		want        api.Bounds
	}{
		"example 3":           {7700, 2000, to(100, 125), 90, to(246, 271)},
		"at rest":             {7700, 2000, to(100, 125), 0, to(0, 0)},
		"no mass":             {0, 2000, to(100, 125), 90, to(150, 150)},
		"no mass, thirds":     {0, 2000, to(100, 125), 100, to(166, 167)},
		"a third":             {0, 1, at(1), 2, to(3, 4)},
		"the sum is rounded":  {864, 1000, at(1), 1, to(2, 2)},  // 5/3 and 1/3 are 2
		"a bit more":          {865, 1000, at(1), 1, to(2, 3)},  // 5/3 and more than 1/3
		"a bit less":          {863, 1000, at(1), 1, to(1, 2)},  // 5/3 and less than 1/3
		"both are rounded":    {1296, 1000, at(1), 2, to(5, 6)}, // 10/3 and 2 are less than 5 1/2
		"greatest":            {400000, 1, to(1, 1000), 400, to(24692024, 24691358692)},
		"as strong as can be": {400000, 20000, at(1000), 400, to(1901, 1902)},
	} {
		if got, e := tow.Stop(c.mass, c.power, c.grip, c.speed); got != c.want || e != api.OK {
			t.Errorf("%s: %v, error %d", name, got, e)
		}
	}
}

// P3.3 and P3.4: the errors.
func TestStopErrors(t *testing.T) {
	for name, c := range map[string]struct {
		mass, power int
		grip        api.Bounds
		number      int // the speed, and the sight
		stop, safe  api.Errno
	}{
		"as it is":         {7700, 2000, to(100, 125), 90, api.OK, api.OK},
		"mass -1":          {-1, 2000, to(100, 125), 90, api.ErrRange, api.ErrRange},
		"mass 400000":      {400000, 2000, to(100, 125), 90, api.OK, api.OK},
		"mass 400001":      {400001, 2000, to(100, 125), 90, api.ErrRange, api.ErrRange},
		"power 0":          {7700, 0, to(100, 125), 90, api.ErrRange, api.ErrRange},
		"power 1":          {7700, 1, to(100, 125), 90, api.OK, api.OK},
		"power 20000":      {7700, 20000, to(100, 125), 90, api.OK, api.OK},
		"power 20001":      {7700, 20001, to(100, 125), 90, api.ErrRange, api.ErrRange},
		"grip 0":           {7700, 2000, to(0, 125), 90, api.ErrRange, api.ErrRange},
		"no grip":          {7700, 2000, to(0, 0), 90, api.ErrRange, api.ErrRange},
		"grip 1 to 1000":   {7700, 2000, to(1, 1000), 90, api.OK, api.OK},
		"grip 1001":        {7700, 2000, to(100, 1001), 90, api.ErrRange, api.ErrRange},
		"grip upside down": {7700, 2000, to(125, 100), 90, api.ErrRange, api.ErrRange},
		"below 0":          {7700, 2000, to(100, 125), -1, api.ErrRange, api.ErrRange},
		"0":                {7700, 2000, to(100, 125), 0, api.OK, api.OK},
		"400":              {7700, 2000, to(100, 125), 400, api.OK, api.OK},
		"401":              {7700, 2000, to(100, 125), 401, api.ErrRange, api.OK},
		"100000":           {7700, 2000, to(100, 125), 100000, api.ErrRange, api.OK},
		"100001":           {7700, 2000, to(100, 125), 100001, api.ErrRange, api.ErrRange},
	} {
		meters, e := tow.Stop(c.mass, c.power, c.grip, c.number)
		expect(t, name+": Stop", outcomeOf(e, meters), c.stop)
		speed, e := tow.Safe(c.mass, c.power, c.grip, c.number)
		expect(t, name+": Safe", outcomeOf(e, speed), c.safe)
	}
}

// exactly returns how many meters a tow needs to stop, not rounded.
func exactly(mass, power, grip, speed int) *big.Rat {
	slide := big.NewRat(int64(mass*1000*speed*speed), int64(2592*power*grip))
	return slide.Add(slide, big.NewRat(int64(speed*5), 3))
}

// isRounded reports whether a number is an exact one, rounded down, or up.
func isRounded(n int, exact *big.Rat, up bool) bool {
	off := new(big.Rat).Sub(big.NewRat(int64(n), 1), exact)
	if !up {
		off.Neg(off)
	}
	return off.Sign() >= 0 && off.Cmp(big.NewRat(1, 1)) < 0
}

// brakes returns a mass, a power and a grip, some of which are at their limits.
func (d dice) brakes() (mass, power int, grip api.Bounds) {
	return d.choose(to(0, 400000)), d.choose(to(1, 20000)), d.bounds(1, 1000)
}

// P3.3: both ends are rounded once, from the exact number.
func TestStopIsExact(t *testing.T) {
	d := newDice(31)
	for range 3000 {
		mass, power, grip := d.brakes()
		speed := d.choose(to(0, 400))
		got, e := tow.Stop(mass, power, grip, speed)
		if e != api.OK || !isRounded(got.Low, exactly(mass, power, grip.High, speed), false) || !isRounded(got.High, exactly(mass, power, grip.Low, speed), true) {
			t.Fatalf("%d, %d, %v, %d: %v, error %d", mass, power, grip, speed, got, e)
		}
	}
}

// P3.13: a heavier tow needs no less way to stop, nor does a faster one.
func TestHeavierAndFaster(t *testing.T) {
	d := newDice(32)
	for range 1000 {
		mass, power, grip := d.brakes()
		speed := d.from(0, 399)
		mass = min(mass, 399999)
		now, _ := tow.Stop(mass, power, grip, speed)
		heavier, _ := tow.Stop(d.from(mass+1, 400000), power, grip, speed)
		faster, _ := tow.Stop(mass, power, grip, d.from(speed+1, 400))
		if heavier.Low < now.Low || heavier.High < now.High || faster.Low < now.Low || faster.High < now.High {
			t.Fatalf("%v; heavier %v; faster %v", now, heavier, faster)
		}
	}
}

// P3.4: speeds at which tows can stop in their sight.
func TestSafe(t *testing.T) {
	for name, c := range map[string]struct {
		mass, power int
		grip        api.Bounds
		sight, want int
	}{
		"as far as example 3": {7700, 2000, to(100, 125), 271, 90},
		"a meter less":        {7700, 2000, to(100, 125), 270, 89},
		"no sight":            {7700, 2000, to(100, 125), 0, 0},
		"too little sight":    {0, 2000, to(100, 125), 1, 0},
		"just a bit":          {0, 2000, to(100, 125), 2, 1},
		"no mass":             {0, 2000, to(100, 125), 666, 399},
		"greatest speed":      {0, 2000, to(100, 125), 667, 400},
		"greatest sight":      {0, 2000, to(100, 125), 100000, 400},
		"the least grip":      {7700, 2000, to(100, 1000), 271, 90},
		"weakest":             {400000, 1, to(1, 1), 100000, 0},
	} {
		if got, e := tow.Safe(c.mass, c.power, c.grip, c.sight); got != c.want || e != api.OK {
			t.Errorf("%s: %d, error %d", name, got, e)
		}
	}
}

// P3.4 and P3.13: at the speed of Safe a tow can stop in its sight; at the next greater one it may not.
func TestSafeIsGreatest(t *testing.T) {
	d, slow := newDice(33), 0
	for range 2000 {
		mass, power, grip := d.brakes()
		sight := d.choose(to(0, 2000))
		speed, e := tow.Safe(mass, power, grip, sight)
		now, f := tow.Stop(mass, power, grip, speed)
		if e != api.OK || f != api.OK || now.High > sight {
			t.Fatalf("%d, %d, %v, %d: %d, %v, errors %d and %d", mass, power, grip, sight, speed, now, e, f)
		}
		if speed == 400 {
			continue
		}
		slow++
		if next, e := tow.Stop(mass, power, grip, speed+1); next.High <= sight || e != api.OK {
			t.Fatalf("%d, %d, %v, %d: %d, but %v with 1 more, error %d", mass, power, grip, sight, speed, next, e)
		}
	}
	if slow < 1000 {
		t.Errorf("only %d speeds are not the greatest", slow)
	}
}

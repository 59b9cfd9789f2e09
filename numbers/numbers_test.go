package numbers_test

import (
	"math"
	"testing"

	"thalweg/api"
	"thalweg/numbers"
)

func TestWithin(t *testing.T) {
	for n, want := range map[int]bool{math.MinInt: false, -3: false, -2: true, 0: true, 5: true, 6: false, math.MaxInt: false} {
		if numbers.Within(-2, 5, n) != want || numbers.Within(-2, 5, 0, n) != want || numbers.Within(-2, 5, n, 0) != want {
			t.Errorf("%d: not %t", n, want)
		}
	}
	if !numbers.Within(1, 0) {
		t.Error("no numbers: false")
	}
}

func TestValid(t *testing.T) {
	for b, want := range map[api.Bounds]bool{
		{Low: 0, High: 9}:                     true,
		{Low: 4, High: 4}:                     true,
		{Low: 5, High: 4}:                     false,
		{Low: -1, High: 4}:                    false,
		{Low: 4, High: 10}:                    false,
		{Low: math.MinInt, High: math.MaxInt}: false,
		{Low: math.MaxInt, High: math.MinInt}: false,
	} {
		if numbers.Valid(b, 0, 9) != want {
			t.Errorf("%v: not %t", b, want)
		}
	}
}

func TestSum(t *testing.T) {
	a, b := api.Bounds{Low: -3, High: 4}, api.Bounds{Low: 5, High: 50}
	if numbers.Sum() != (api.Bounds{}) || numbers.Sum(a) != a || numbers.Sum(a, b, a) != (api.Bounds{Low: -1, High: 58}) {
		t.Error(numbers.Sum(), numbers.Sum(a), numbers.Sum(a, b, a))
	}
}

func TestRounding(t *testing.T) {
	for _, c := range []struct{ a, b, down, up int }{
		{7, 2, 3, 4}, {8, 2, 4, 4}, {-7, 2, -4, -3}, {-8, 2, -4, -4}, {0, 5, 0, 0}, {1, 5, 0, 1}, {-1, 5, -1, 0},
	} {
		if down, up := numbers.Down(c.a, c.b), numbers.Up(c.a, c.b); down != c.down || up != c.up {
			t.Errorf("%d / %d: %d and %d", c.a, c.b, down, up)
		}
	}
}

func TestEvery(t *testing.T) {
	short := func(s string) bool { return len(s) < 3 }
	if !numbers.Every(nil, short) || !numbers.Every([]string{"a", "bc"}, short) {
		t.Error("not every one of the short words is short")
	}
	if numbers.Every([]string{"abc", "d"}, short) || numbers.Every([]string{"a", "bcd"}, short) {
		t.Error("a long word is short")
	}
}

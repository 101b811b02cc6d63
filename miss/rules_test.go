package miss_test

import (
	"math"
	"slices"
	"testing"

	"tithing/api"
	"tithing/miss"
)

// roomy returns the list with free room behind it, which nobody may write to either.
func roomy[T any](list []T) []T { return slices.Grow(slices.Clone(list), 8) }

// whole returns the list with all the room behind it.
func whole[T any](list []T) []T { return slices.Clone(list[:cap(list)]) }

// spoil writes to all the memory of the list, up to its capacity.
func spoil[T any](list []T, with T) {
	list = list[:cap(list)]
	for i := range list {
		list[i] = with
	}
}

// R4: arguments are not written to, not even behind their ends.
func TestArgumentsAreKept(t *testing.T) {
	l, lots := roomy(areas(three(), ten(3), ten(4))), roomy(list(7, 0, 2, 0))
	l2, lots2 := whole(l), whole(lots)
	miss.Total(l, over(2, 5))
	miss.Total(l, over(9, 10))
	miss.Draw(5, lots)
	miss.Draw(3, lots)
	if !slices.Equal(whole(l), l2) || !slices.Equal(whole(lots), lots2) {
		t.Errorf("a list is changed: %v, %v", whole(l), whole(lots))
	}
}

// R4: results are in memory of their own.
func TestMemory(t *testing.T) {
	lots := list(4, 3, 2, 1, 0)
	for range 2 {
		for what, x := range map[string]struct {
			call func() ([]int, api.Errno)
			want []int
		}{
			"Likely":         {func() ([]int, api.Errno) { return miss.Likely(area(3, 4, 0, 0)) }, list(0, 1, 2, 3, 4)},
			"Draw":           {func() ([]int, api.Errno) { return miss.Draw(5, lots[:2]) }, list(3, 4)},
			"Draw of all":    {func() ([]int, api.Errno) { return miss.Draw(5, lots) }, list(0, 1, 2, 3, 4)},
			"Draw of nobody": {func() ([]int, api.Errno) { return miss.Draw(5, lots[:0]) }, nil},
		} {
			l, e := x.call()
			k, _ := x.call()
			spoil(l, -7)
			if !slices.Equal(k, x.want) || e != api.OK {
				t.Errorf("%s: %v, %v", what, k, e)
			}
		}
		if !slices.Equal(lots, list(4, 3, 2, 1, 0)) {
			t.Errorf("the lots are changed: %v", lots)
		}
	}
}

// R3: nil and a list without elements are the same.
func TestEmptyLists(t *testing.T) {
	for _, l := range [][]miss.Area{nil, {}} {
		if r, e := miss.Total(l, over(1, 2)); r != to(0, 0) || e != api.OK {
			t.Errorf("Total: %v, %v", r, e)
		}
		if r, e := miss.Total(l, over(3, 2)); r != to(0, 0) || e != api.ErrRange {
			t.Errorf("Total by a wrong level: %v, %v", r, e)
		}
	}
	for _, lots := range [][]int{nil, {}} {
		for _, n := range list(0, 1, 50) {
			if l, e := miss.Draw(n, lots); len(l) != 0 || e != api.OK {
				t.Errorf("Draw of %d: %v, %v", n, l, e)
			}
		}
		if l, e := miss.Draw(51, lots); len(l) != 0 || e != api.ErrRange {
			t.Errorf("Draw of 51: %v, %v", l, e)
		}
	}
}

// wild makes a number of any size.
func (d *dice) wild() int {
	numbers := list(math.MinInt, math.MinInt+1, -1000, -50, -2, -1, 0, 1, 2, 3, 4, 5, 10, 25, 49, 50, 51, 60, 61, 999, 1000, 1001, 1<<32, math.MaxInt-1, math.MaxInt)
	return numbers[d.upTo(len(numbers)-1)]
}

// wildArea spoils an area in one place, or in none.
func (d *dice) wildArea() miss.Area {
	a := d.throwArea(50)
	switch d.upTo(5) {
	case 0:
		a.Listed = d.wild()
	case 1:
		a.Most = d.wild()
	case 2:
		a.Sample = d.wild()
	case 3:
		a.Found = d.wild()
	}
	return a
}

func (d *dice) wildLevel() miss.Fraction {
	if d.upTo(1) == 0 {
		return d.throwLevel()
	}
	return over(d.wild(), d.wild())
}

// isArea tells what the chapter describes as an area.
func isArea(a miss.Area) bool {
	return 0 <= a.Listed && a.Listed <= 50 && 0 <= a.Most && a.Most <= 50-a.Listed && 0 <= a.Found && a.Found <= a.Sample && a.Sample <= a.Listed
}

func isLevel(f miss.Fraction) bool {
	return 1 <= f.Den && f.Den <= 1000 && 0 <= f.Num && f.Num <= f.Den
}

// dueError returns the error of the call with these arguments; a call that may fail has none before.
func dueError(call string, a miss.Area, missed int, level miss.Fraction) api.Errno {
	switch {
	case !isArea(a):
		return api.ErrArg
	case (call == "Chance" || call == "Tail" || call == "Tail, at most") && (missed < 0 || missed > a.Most):
		return api.ErrRange
	case (call == "Missed" || call == "Total" || call == "Total of two") && !isLevel(level):
		return api.ErrRange
	}
	return api.OK
}

// P1, R2: each call with an area returns, whatever its arguments are, and with an error all else is zero.
func TestWildAreas(t *testing.T) {
	d := dice(8)
	count := map[api.Errno]int{}
	for range 1500 {
		a, missed, level := d.wildArea(), d.upTo(50), d.wildLevel()
		if d.upTo(1) == 0 {
			missed = d.wild()
		}
		for call, f := range calls(a, missed, level) {
			due := dueError(call, a, missed, level)
			e, zero := f()
			fails := due == api.OK && e == api.ErrFail && call != "Chance" && call != "Tail" && call != "Tail, at most"
			if e != due && !fails || e != api.OK && !zero {
				t.Fatalf("%s of %v, %d, %v: %v, not %v; zero: %v", call, a, missed, level, e, due, zero)
			}
			count[e]++
		}
	}
	for _, e := range []api.Errno{api.OK, api.ErrArg, api.ErrRange, api.ErrFail} {
		if count[e] < 500 {
			t.Errorf("only so many errors: %v", count)
		}
	}
}

// P1, R2: each call with numbers returns, too.
func TestWildNumbers(t *testing.T) {
	d := dice(9)
	for range 20000 {
		n, k := d.wild(), d.wild()
		if many, e := miss.Ways(n, k); (e == api.OK) != (0 <= min(n, k) && max(n, k) <= 60) || e != api.OK && many != 0 {
			t.Fatalf("Ways of %d, %d: %d, %v", n, k, many, e)
		}
		missed, level := d.wild(), d.wildLevel()
		valid := isArea(area(n, k, 0, 0)) && 0 <= missed && missed <= k && isLevel(level)
		if many, e := miss.Enough(n, k, missed, level); (e == api.ErrRange) == valid || e != api.OK && many != 0 {
			t.Fatalf("Enough of %d, %d, %d, %v: %d, %v", n, k, missed, level, many, e)
		}
		lots := make([]int, d.upTo(3))
		for i := range lots {
			lots[i] = d.wild()
		}
		valid = 0 <= n && n <= 50 && len(lots) <= n && (len(lots) == 0 || slices.Min(lots) >= 0)
		if l, e := miss.Draw(n, lots); (e == api.OK) != valid || e != api.OK && len(l) != 0 {
			t.Fatalf("Draw of %d by %v: %v, %v", n, lots, l, e)
		}
	}
}

// A call with equal arguments returns equal results, whatever was called before it.
func TestNothingIsStored(t *testing.T) {
	for range 3 {
		for _, x := range []struct {
			a    miss.Area
			want []int
		}{{ten(3), list(3)}, {three(), list(2, 3)}, {ten(2), list(5)}, {area(4, 0, 3, 2), nil}, {ten(4), list(0)}} {
			if l, _ := miss.Likely(x.a); !slices.Equal(l, x.want) {
				t.Errorf("Likely of %v: %v", x.a, l)
			}
		}
		for _, x := range []struct {
			l    []miss.Area
			want miss.Range
		}{{areas(ten(3), three()), to(3, 9)}, {areas(three()), to(1, 4)}, {nil, to(0, 0)}, {areas(ten(3)), to(2, 5)}} {
			if r, e := miss.Total(x.l, over(2, 5)); r != x.want || e != api.OK {
				t.Errorf("Total of %v: %v, %v", x.l, r, e)
			}
		}
	}
}

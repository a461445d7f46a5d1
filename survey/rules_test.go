package survey_test

import (
	"math"
	"reflect"
	"slices"
	"strings"
	"testing"

	"moveout/api"
	"moveout/survey"
)

// extremes are integers at the ends of their ranges, and beyond them.
var extremes = []int{math.MinInt, -1, 0, 1, 3, 4096, 4097, math.MaxInt}

// args returns the arguments of a list of bad ones, behind some others.
func args[T any](l []bad[T], others ...T) []T {
	for _, x := range l {
		others = append(others, x.x)
	}
	return others
}

func oddVessels() []survey.Vessel {
	l := args(badVessels(), vessel(), anchored(1), survey.Vessel{Start: point(-100000, 100000), Step: point(-1000, 1000), Ticks: 300})
	for _, n := range extremes {
		l = append(l, survey.Vessel{Start: point(n, n), Step: point(n, n), Ticks: n}, survey.Vessel{Ticks: n})
	}
	return l
}

func oddWatches() []survey.Watch {
	l := args(badWatches(), survey.Watch{}, watch(), survey.Watch{Ring: 10000, Speed: 1000, Loss: 1000, Clear: 1000, Soft: 1000})
	for _, n := range extremes {
		l = append(l, survey.Watch{Ring: n, Speed: n, Loss: n, Clear: n, Soft: n})
	}
	return l
}

func oddSightings() [][]survey.Sighting {
	l := args(badSightings(), nil, []survey.Sighting{}, seen(), make([]survey.Sighting, 64), make([]survey.Sighting, 100000))
	for _, n := range extremes {
		l = append(l, []survey.Sighting{sighting(n, n, n)})
	}
	return l
}

func oddSpans() [][]api.Span {
	l := args(badSpans(), nil, []api.Span{}, spans(0, 12), steps(256), make([]api.Span, 100000))
	for _, n := range extremes {
		l = append(l, spans(n, n), spans(0, n), spans(n, 5))
	}
	return l
}

func oddFires() [][]survey.Fire {
	l := args(badFires(), nil, []survey.Fire{}, fire(11, 3), make([]survey.Fire, 256), make([]survey.Fire, 100000))
	for _, n := range extremes {
		l = append(l, fire(n, n), fire(n, 1), fire(0, n))
	}
	return l
}

func oddEntries() [][]survey.Entry {
	l := args(badEntries(), nil, []survey.Entry{}, day(), each(64), make([]survey.Entry, 100000), entries(entry(0, 100000, "weather")))
	for _, n := range extremes {
		l = append(l, entries(entry(n, n, "shoot")), entries(entry(0, n, "shoot")), entries(entry(n, 5, "shoot")), entries(entry(n, n, strings.Repeat("x", 100000))))
	}
	return l
}

func oddContracts() []survey.Contract {
	l := args(badContracts(), survey.Contract{}, contract(1))
	for _, n := range extremes {
		l = append(l, survey.Contract{Shoot: n, Turn: n, Weather: n, Animal: n, Gear: n, Share: n, Free: n, Bonus: n, Penalty: n})
	}
	return l
}

func oddResults() [][]survey.Result {
	l := args(badResults(), nil, []survey.Result{}, two(), many(64), make([]survey.Result, 100000), []survey.Result{result(strings.Repeat("a", 100000), 1, 1)})
	for _, n := range extremes {
		l = append(l, []survey.Result{result("a", n, n)})
	}
	return l
}

func oddInvoices() []survey.Invoice {
	l := []survey.Invoice{{}}
	for _, n := range extremes {
		l = append(l, survey.Invoice{Causes: [6]int{n, n, n, n, n, n}, Lines: n, Total: n})
	}
	return l
}

func oddTexts() []string {
	return []string{"", "\n", " ", "\x00", "\xff\xfe\n", "0", "0 1", "0 1 turn", "0 1 turn\n", "0 1 \n", "  \n", "   \n", "999999999 999999999 turn\n", strings.Repeat("\n", 4096), strings.Repeat(" ", 4096), strings.Repeat("0 1 turn\n", 455), strings.Repeat("9", 1000000), strings.Repeat("x", 3000000)}
}

// The limits are those of the chapter.
func TestLimits(t *testing.T) {
	got := []int{survey.MaxRing, survey.MaxSpeed, survey.MaxWait, survey.MaxTicks, survey.MaxSightings, survey.MaxFires, survey.MaxEntries, survey.MaxRate, survey.MaxLines}
	same(t, "the limits", got, ints(10000, 1000, 1000, 4096, 64, 256, 64, 10000, 64))
}

// P1: no function panics, and together with an error every other result is its zero value.
func TestOddArguments(t *testing.T) {
	few := [][]survey.Sighting{nil, seen(), make([]survey.Sighting, 65)}
	some := []survey.Watch{watch(), {}, {Ring: math.MinInt, Speed: math.MaxInt, Loss: math.MaxInt, Clear: math.MinInt, Soft: math.MaxInt}}
	combine(t, survey.Causes)
	combine(t, survey.CheckWatch, oddWatches())
	combine(t, survey.CheckVessel, oddVessels())
	combine(t, survey.CheckSightings, oddSightings())
	combine(t, survey.Inside, oddVessels(), oddWatches(), oddSightings())
	combine(t, survey.Levels, oddVessels(), oddWatches(), few)
	combine(t, survey.Silent, oddVessels(), oddWatches(), few)
	combine(t, survey.CheckFires, oddVessels(), some, few, oddFires())
	combine(t, survey.Window, oddVessels(), some, few, oddSpans(), extremes)
	combine(t, survey.Diary, oddVessels()[:12], some, few, oddSpans(), oddSpans()[:20])
	combine(t, survey.CheckEntries, oddEntries())
	combine(t, survey.Merged, oddEntries())
	combine(t, survey.Hours, oddEntries())
	combine(t, survey.Downtime, oddEntries())
	combine(t, survey.CheckContract, oddContracts())
	combine(t, survey.CheckResults, oddResults())
	combine(t, survey.Accepted, oddResults())
	combine(t, survey.Bill, oddContracts(), oddEntries(), oddResults())
	combine(t, survey.ByTicks, oddContracts(), oddEntries(), oddResults()[:6])
	combine(t, survey.Differences, oddInvoices(), oddInvoices())
	combine(t, survey.Print, oddEntries())
	combine(t, survey.Parse, oddTexts())
}

// combine calls a function with all combinations of the elements of some lists.
func combine(t *testing.T, f any, lists ...any) {
	t.Helper()
	calls := [][]reflect.Value{nil}
	for _, list := range lists {
		l := reflect.ValueOf(list)
		var longer [][]reflect.Value
		for _, args := range calls {
			for j := range l.Len() {
				longer = append(longer, append(slices.Clone(args), l.Index(j)))
			}
		}
		calls = longer
	}
	for _, args := range calls {
		checkCall(t, f, args)
	}
}

// checkCall calls a function, and checks what is beside an error.
func checkCall(t *testing.T, f any, args []reflect.Value) {
	t.Helper()
	_, isParse := f.(func(string) ([]survey.Entry, int, api.Errno))
	out := reflect.ValueOf(f).Call(args)
	e, is := out[len(out)-1].Interface().(api.Errno)
	for i, x := range out[:len(out)-1] {
		// Parse gives an index beside its errors.
		if isParse && i == 1 {
			continue
		}
		if is && e != api.OK && !reflect.ValueOf(plain(x.Interface())).IsZero() {
			t.Errorf("a result beside the error %v is %v", e, x)
		}
	}
}

// mess changes all elements of a list, also those behind its end.
func mess[T any](l []T, to T) {
	l = l[:cap(l)]
	for i := range l {
		l[i] = to
	}
}

// The rule 'Memory' for watches and shots.
func TestMemoryOfWatches(t *testing.T) {
	l, shares, weather, fires := seen(), spans(0, 11, 11, 20), spans(9, 10), fire(9, 2)
	for range 2 {
		is, e := survey.Inside(vessel(), watch(), l)
		ok(t, "Inside", e)
		same(t, "Inside", is[:4], []bool{false, false, true, true})
		mess(is, true)
		levels, e := survey.Levels(vessel(), watch(), l)
		ok(t, "Levels", e)
		same(t, "Levels", levels, ints(0, 0, 0, 0, 0, 0, 0, 0, 1, 2, 3, 3))
		mess(levels, -99)
		silent, e := survey.Silent(vessel(), watch(), l)
		ok(t, "Silent", e)
		same(t, "Silent", silent, spans(0, 8))
		mess(silent, span(-99, -98))
		ok(t, "CheckFires", survey.CheckFires(vessel(), watch(), l, fires))
		at, e := survey.Window(vessel(), watch(), l, shares, 2)
		ok(t, "Window", e)
		same(t, "Window", at, 10)
		d, e := survey.Diary(vessel(), watch(), l, shares, weather)
		ok(t, "Diary", e)
		same(t, "Diary", d, day())
		mess(d, survey.Entry{})
	}
	same(t, "the arguments", []any{l, shares, weather, fires}, []any{seen(), spans(0, 11, 11, 20), spans(9, 10), fire(9, 2)})
}

// The rule 'Memory' for entries.
func TestMemoryOfEntries(t *testing.T) {
	parts := func() []survey.Entry {
		return entries(entry(0, 2, "turn"), entry(2, 3, "turn"), entry(3, 5, "turn"), entry(6, 7, "gear"))
	}
	whole := entries(entry(0, 5, "turn"), entry(6, 7, "gear"))
	l, plainDay := parts(), day()
	for range 2 {
		causes := survey.Causes()
		same(t, "Causes", causes[0], "shoot")
		mess(causes, "rest")
		merged, e := survey.Merged(l)
		ok(t, "Merged", e)
		same(t, "Merged", merged, whole)
		mess(merged, survey.Entry{})
		merged, e = survey.Merged(plainDay)
		ok(t, "Merged", e)
		same(t, "Merged of a diary", merged, day())
		mess(merged, survey.Entry{})
		s, e := survey.Print(l)
		ok(t, "Print", e)
		back, _, e := survey.Parse(s)
		ok(t, "Parse", e)
		same(t, "Parse", back, parts())
		mess(back, survey.Entry{})
		h, e := survey.Hours(l)
		ok(t, "Hours", e)
		same(t, "Hours", h, [6]int{0, 5, 0, 0, 1, 0})
	}
	same(t, "the arguments", []any{l, plainDay}, []any{parts(), day()})
	merged, e := survey.Merged(l)
	ok(t, "Merged", e)
	mess(l, survey.Entry{})
	same(t, "Merged when the argument is changed", merged, whole)
}

// The rule 'Memory' for invoices.
func TestMemoryOfInvoices(t *testing.T) {
	l, lines := day(), two()
	for range 2 {
		good, others, e := survey.Accepted(lines)
		ok(t, "Accepted", e)
		same(t, "Accepted", []any{good, others}, []any{[]string{"a"}, []string{"b"}})
		mess(good, "x")
		same(t, "the other lines", others, []string{"b"})
		mess(others, "x")
		a, e := survey.Bill(contract(0), l, lines)
		ok(t, "Bill", e)
		b, e := survey.ByTicks(contract(1), l, lines)
		ok(t, "ByTicks", e)
		differ, e := survey.Differences(a, b)
		ok(t, "Differences", e)
		same(t, "Differences", differ, []string{"weather", "total"})
		mess(differ, "x")
	}
	same(t, "the arguments", []any{l, lines}, []any{day(), two()})
}

// The rule 'Determinism': the same call has the same result again.
func TestSameAgain(t *testing.T) {
	r := random(10)
	for range 50 {
		v, w := r.vessel(60), r.watch()
		l, shares, weather := r.sightings(v, 5), r.spans(5, 20), r.spans(3, 6)
		c, parts, lines := r.contract(30), r.entries(15, 9), r.results(8)
		for _, f := range []func() (any, api.Errno){
			func() (any, api.Errno) { x, e := survey.Levels(v, w, l); return x, e },
			func() (any, api.Errno) { x, e := survey.Silent(v, w, l); return x, e },
			func() (any, api.Errno) { x, e := survey.Window(v, w, l, shares, 3); return x, e },
			func() (any, api.Errno) { x, e := survey.Diary(v, w, l, shares, weather); return x, e },
			func() (any, api.Errno) { x, e := survey.Merged(parts); return x, e },
			func() (any, api.Errno) { x, e := survey.Hours(parts); return x, e },
			func() (any, api.Errno) { x, e := survey.Bill(c, parts, lines); return x, e },
			func() (any, api.Errno) { x, e := survey.ByTicks(c, parts, lines); return x, e },
			func() (any, api.Errno) { x, y, e := survey.Accepted(lines); return []any{x, y}, e },
		} {
			x, e1 := f()
			y, e2 := f()
			same(t, "a result again", y, x)
			same(t, "an error again", e2, e1)
		}
	}
}

package survey_test

import (
	"math"
	"testing"

	"moveout/api"
	"moveout/survey"
)

// P9.4: CheckContract.
func TestCheckContract(t *testing.T) {
	for _, c := range []survey.Contract{
		{}, contract(0),
		{Shoot: 10000, Turn: 10000, Weather: 10000, Animal: 10000, Gear: 10000, Share: 10000, Free: 100000, Bonus: 10000, Penalty: 10000},
		{Shoot: -10000, Turn: -10000, Weather: -10000, Animal: -10000, Gear: -10000, Share: -10000},
	} {
		same(t, "CheckContract", survey.CheckContract(c), api.OK)
	}
	for _, x := range badContracts() {
		same(t, "CheckContract of "+x.what, survey.CheckContract(x.x), x.e)
	}
}

// P9.4: CheckResults.
func TestCheckResults(t *testing.T) {
	for _, l := range [][]survey.Result{
		nil, {}, two(), many(64),
		{result("a", 0, 10000), result("A", 10000, 0), result("a_9", 5, 5), result("abcdefghijklmnopqrstuvwx", 0, 0)},
	} {
		same(t, "CheckResults", survey.CheckResults(l), api.OK)
	}
	for _, x := range badResults() {
		same(t, "CheckResults of "+x.what, survey.CheckResults(x.x), x.e)
	}
}

// P9.4: Accepted.
func TestAccepted(t *testing.T) {
	for _, x := range []struct {
		l            []survey.Result
		good, others []string
	}{
		{nil, nil, nil},
		{two(), []string{"a"}, []string{"b"}},
		{[]survey.Result{result("z", 1, 2), result("y", 0, 0), result("x", 10000, 9999), result("w", 0, 1), result("v", 9999, 10000)}, []string{"y", "x"}, []string{"z", "w", "v"}},
		{[]survey.Result{result("b", 7, 7), result("a", 8, 7)}, []string{"b", "a"}, nil},
		{[]survey.Result{result("b", 6, 7), result("a", 0, 7)}, nil, []string{"b", "a"}},
	} {
		good, others, e := survey.Accepted(x.l)
		ok(t, "Accepted", e)
		same(t, "Accepted", []any{good, others}, []any{x.good, x.others})
	}
	for _, x := range badResults() {
		good, others, e := survey.Accepted(x.x)
		fails(t, "Accepted of "+x.what, e, x.e, good, others)
	}
}

// bills returns both functions that make invoices.
func bills() map[string]func(survey.Contract, []survey.Entry, []survey.Result) (survey.Invoice, api.Errno) {
	return map[string]func(survey.Contract, []survey.Entry, []survey.Result) (survey.Invoice, api.Errno){"Bill": survey.Bill, "ByTicks": survey.ByTicks}
}

// P9.4: Bill and ByTicks.
func TestBill(t *testing.T) {
	windy := entries(entry(0, 3, "weather"), entry(3, 4, "gear"), entry(6, 10, "weather"), entry(10, 12, "turn"), entry(12, 17, "share"))
	dear := survey.Contract{Shoot: -10000, Turn: 10000, Weather: 10000, Animal: 10000, Gear: 10000, Share: 10000, Bonus: 10000, Penalty: 10000}
	free := dear
	free.Free = 100000
	invoice := func(lines, total int, causes ...int) survey.Invoice {
		return survey.Invoice{Causes: [6]int(causes), Lines: lines, Total: total}
	}
	for _, x := range []struct {
		what  string
		c     survey.Contract
		l     []survey.Entry
		lines []survey.Result
		want  survey.Invoice
	}{
		{"example 5", contract(0), day(), two(), invoice(300, 700, 300, 0, 20, 80, 0, 0)},
		{"example 5 with one free tick", contract(1), day(), two(), invoice(300, 680, 300, 0, 0, 80, 0, 0)},
		{"nothing", contract(0), nil, nil, survey.Invoice{}},
		{"lines alone", contract(0), nil, two(), invoice(300, 300, 0, 0, 0, 0, 0, 0)},
		{"entries alone", contract(0), day(), nil, invoice(0, 400, 300, 0, 20, 80, 0, 0)},
		{"a line that is accepted", contract(0), nil, two()[:1], invoice(500, 500, 0, 0, 0, 0, 0, 0)},
		{"a line that is not", contract(0), nil, two()[1:], invoice(-200, -200, 0, 0, 0, 0, 0, 0)},
		{"all causes", contract(0), each(12), nil, invoice(0, 310, 200, 100, 40, 20, -60, 10)},
		{"no free ticks", contract(0), windy, nil, invoice(0, 235, 0, 100, 140, 0, -30, 25)},
		{"free ticks of the first entry", contract(2), windy, nil, invoice(0, 195, 0, 100, 100, 0, -30, 25)},
		{"free ticks of two entries", contract(5), windy, nil, invoice(0, 135, 0, 100, 40, 0, -30, 25)},
		{"as many free ticks as of weather", contract(7), windy, nil, invoice(0, 95, 0, 100, 0, 0, -30, 25)},
		{"more free ticks than of weather", contract(8), windy, nil, invoice(0, 95, 0, 100, 0, 0, -30, 25)},
		{"no rates", survey.Contract{Free: 3}, windy, two(), survey.Invoice{}},
		{"the most money", dear, entries(entry(0, 50000, "weather"), entry(50000, 100000, "share")), many(64)[30:], invoice(340000, 1000340000, 0, 0, 500000000, 0, 0, 500000000)},
		{"the least money", dear, entries(entry(0, 100000, "shoot")), many(30), invoice(-300000, -1000300000, -1000000000, 0, 0, 0, 0, 0)},
		{"the most free ticks", free, entries(entry(0, 100000, "weather")), nil, survey.Invoice{}},
	} {
		for name, bill := range bills() {
			got, e := bill(x.c, x.l, x.lines)
			ok(t, name, e)
			same(t, name+": "+x.what, got, x.want)
		}
	}
}

// P9.4: the errors of Bill and ByTicks.
func TestBillErrors(t *testing.T) {
	for name, bill := range bills() {
		for _, x := range badContracts() {
			got, e := bill(x.x, day(), two())
			fails(t, name+" with "+x.what, e, x.e, got)
			got, e = bill(x.x, each(65), many(65))
			fails(t, name+" with "+x.what, e, x.e, got)
		}
		for _, x := range badEntries() {
			got, e := bill(contract(0), x.x, two())
			fails(t, name+" with "+x.what, e, x.e, got)
			got, e = bill(contract(0), x.x, make([]survey.Result, 1))
			fails(t, name+" with "+x.what, e, x.e, got)
		}
		for _, x := range badResults() {
			got, e := bill(contract(0), day(), x.x)
			fails(t, name+" with "+x.what, e, x.e, got)
		}
	}
}

// P9.4: Differences.
func TestDifferences(t *testing.T) {
	a := survey.Invoice{Causes: [6]int{300, 0, 20, 80, 0, 0}, Lines: 300, Total: 700}
	change := func(set func(x *survey.Invoice)) survey.Invoice {
		x := a
		set(&x)
		return x
	}
	for _, x := range []struct {
		b    survey.Invoice
		want []string
	}{
		{a, nil},
		{change(func(x *survey.Invoice) { x.Causes[0]++ }), []string{"shoot"}},
		{change(func(x *survey.Invoice) { x.Causes[1]-- }), []string{"turn"}},
		{change(func(x *survey.Invoice) { x.Causes[2] = 0; x.Total = 680 }), []string{"weather", "total"}},
		{change(func(x *survey.Invoice) { x.Causes[3] = math.MinInt }), []string{"animal"}},
		{change(func(x *survey.Invoice) { x.Causes[4] = math.MaxInt }), []string{"gear"}},
		{change(func(x *survey.Invoice) { x.Causes[5] = -1 }), []string{"share"}},
		{change(func(x *survey.Invoice) { x.Lines = -300 }), []string{"lines"}},
		{change(func(x *survey.Invoice) { x.Total = -700 }), []string{"total"}},
		{change(func(x *survey.Invoice) { x.Causes[1], x.Causes[5], x.Lines = 9, 9, 0 }), []string{"turn", "share", "lines"}},
		{survey.Invoice{Causes: [6]int{1, 1, 1, 1, 1, 1}, Lines: math.MinInt, Total: math.MaxInt}, []string{"shoot", "turn", "weather", "animal", "gear", "share", "lines", "total"}},
		{survey.Invoice{}, []string{"shoot", "weather", "animal", "lines", "total"}},
	} {
		for _, pair := range [][2]survey.Invoice{{a, x.b}, {x.b, a}} {
			got, e := survey.Differences(pair[0], pair[1])
			ok(t, "Differences", e)
			same(t, "Differences", got, x.want)
		}
	}
}

// P9.4: Bill and ByTicks are what the definitions say.
func TestRandomBills(t *testing.T) {
	r := random(4)
	for range 1500 {
		c, l, lines := r.contract(20), r.entries(12, 8), r.results(8)
		for name, bill := range bills() {
			got, e := bill(c, l, lines)
			ok(t, name, e)
			same(t, name, got, invoiceOf(c, l, lines))
		}
	}
}

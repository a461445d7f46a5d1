package cover_test

import (
	"math"
	"slices"
	"testing"

	"moveout/api"
	"moveout/cover"
)

// row returns a grid of so many bins, each 10 decimetres wide.
func row(bins int) cover.Grid {
	return cover.Grid{Width: 10, Height: 10, Columns: bins, Rows: 1}
}

// over returns an offer that adds to the bins of a row, from the first one on, some numbers of places, all of them above 0 the same.
func over(name string, minutes, from, bins, channels int) cover.Offer {
	return cover.Offer{Line: cover.Line{Name: name, Start: at(10*from, 0), Step: at(10, 0), Shots: bins, Channels: channels}, Minutes: minutes}
}

// P4.4: CheckInfill, Infill and Prices of the example, and of others.
func TestInfill(t *testing.T) {
	a := []cover.Line{first()}
	for _, x := range []struct {
		what    string
		g       cover.Grid
		l       []cover.Line
		want    int
		offers  []cover.Offer
		infill  []int
		minutes int
		prices  []int
	}{
		{"the offers b, c and d", small(), a, 3, offers(), []int{2}, 65, []int{30, 35}},
		{"the offers b and c", small(), a, 3, offers()[:2], []int{0, 1}, 70, []int{30, 40}},
		{"the offer d", small(), a, 4, offers()[2:], []int{0}, 65, []int{32, 0}},
		{"no gaps", small(), a, 2, offers(), nil, 0, []int{0, 0}},
		{"no gaps and no offers", small(), a, 1, nil, nil, 0, []int{0, 0}},
		{"one gap", small(), []cover.Line{refusing(0)}, 2, offers(), []int{0}, 30, []int{15, 0}},
		{"another gap", small(), []cover.Line{refusing(1)}, 2, offers(), []int{1}, 40, []int{0, 20}},
		{"all offers", small(), nil, 4, offers(), []int{0, 1, 2}, 135, []int{15, 17}},
		{"the same minutes: the first one alone", row(2), nil, 1, []cover.Offer{over("x", 4, 0, 2, 1), over("y", 1, 0, 1, 1), over("z", 3, 1, 1, 1)}, []int{0}, 4, []int{1, 3}},
		{"the same minutes: the first two", row(2), nil, 1, []cover.Offer{over("y", 1, 0, 1, 1), over("z", 3, 1, 1, 1), over("x", 4, 0, 2, 1)}, []int{0, 1}, 4, []int{1, 3}},
		{"the same minutes: the first and the last", row(2), nil, 1, []cover.Offer{over("y", 1, 0, 1, 1), over("x", 4, 0, 2, 1), over("z", 3, 1, 1, 1)}, []int{0, 2}, 4, []int{1, 3}},
		{"an idle offer before", row(1), nil, 1, []cover.Offer{over("idle", 1, 5, 1, 1), over("x", 9, 0, 1, 16), over("y", 8, 0, 1, 2)}, []int{2}, 8, []int{8}},
		{"more than is needed", row(1), nil, 3, []cover.Offer{over("x", 9, 0, 1, 16), over("y", 8, 0, 1, 2)}, []int{0}, 9, []int{3}},
		{"prices by the rest of the minutes", row(3), nil, 2, []cover.Offer{over("x", 7, 0, 3, 2), over("y", 8, 1, 1, 1), over("z", 8, 1, 2, 1)}, []int{0}, 7, []int{3, 0, 0}},
	} {
		l, n, e := cover.Infill(x.g, classes(), x.l, x.want, x.offers)
		ok(t, "Infill", e)
		same(t, "Infill: "+x.what, l, x.infill)
		same(t, "the minutes of Infill: "+x.what, n, x.minutes)
		same(t, "CheckInfill: "+x.what, cover.CheckInfill(x.g, classes(), x.l, x.want, x.offers, l), api.OK)
		p, e := cover.Prices(x.g, classes(), x.l, x.want, x.offers)
		ok(t, "Prices", e)
		same(t, "Prices: "+x.what, p, x.prices)
	}
}

// P4.4: what no choice reaches, and what has no prices.
func TestInfeasible(t *testing.T) {
	a := []cover.Line{first()}
	for _, x := range []struct {
		what   string
		l      []cover.Line
		want   int
		offers []cover.Offer
		prices []int
		e      api.Errno
	}{
		{"too large a fold", a, 7, offers(), []int{15, 17}, api.OK},
		{"one bin that no offer reaches", a, 3, offers()[:1], nil, api.ErrInfeasible},
		{"no offers", a, 3, nil, nil, api.ErrInfeasible},
		{"offers without a class", nil, 1, []cover.Offer{{Line: changed(func(l *cover.Line) { l.Near.Y = 9000 }), Minutes: 1}}, nil, api.ErrInfeasible},
		{"offers that are refused", nil, 1, []cover.Offer{{Line: refusing(0, 1), Minutes: 1}}, nil, api.ErrInfeasible},
		{"a shot of an offer that is refused", nil, 1, []cover.Offer{{Line: refusing(1), Minutes: 1}}, nil, api.ErrInfeasible},
	} {
		l, n, e := cover.Infill(small(), classes(), x.l, x.want, x.offers)
		fails(t, "Infill: "+x.what, l, e, api.ErrInfeasible)
		same(t, "the minutes of Infill: "+x.what, n, 0)
		all := upTo(len(x.offers))
		same(t, "CheckInfill: "+x.what, cover.CheckInfill(small(), classes(), x.l, x.want, x.offers, all), api.ErrInfeasible)
		p, e := cover.Prices(small(), classes(), x.l, x.want, x.offers)
		fails(t, "Prices: "+x.what, p, e, x.e)
		same(t, "Prices: "+x.what, p, x.prices)
	}
}

// P4.4: CheckInfill.
func TestCheckInfill(t *testing.T) {
	for _, x := range []struct {
		chosen []int
		e      api.Errno
	}{
		{[]int{2}, api.OK}, {[]int{0, 1}, api.OK}, {[]int{0, 2}, api.OK}, {[]int{0, 1, 2}, api.OK},
		{nil, api.ErrInfeasible}, {[]int{0}, api.ErrInfeasible}, {[]int{1}, api.ErrInfeasible},
		{[]int{0, 1, 2, 3}, api.ErrMany}, {make([]int, 100000), api.ErrMany},
		{[]int{3}, api.ErrUnknown}, {[]int{-1}, api.ErrUnknown}, {[]int{0, 1, math.MaxInt}, api.ErrUnknown}, {[]int{math.MinInt}, api.ErrUnknown}, {[]int{1, -1}, api.ErrUnknown}, {[]int{1, 3, 0}, api.ErrUnknown},
		{[]int{0, 0}, api.ErrOrder}, {[]int{1, 0}, api.ErrOrder}, {[]int{1, 0, 3}, api.ErrOrder}, {[]int{2, 2, 2}, api.ErrOrder},
	} {
		same(t, "CheckInfill", []any{x.chosen, cover.CheckInfill(small(), classes(), []cover.Line{first()}, 3, offers(), x.chosen)}, []any{x.chosen, x.e})
	}
	same(t, "CheckInfill without gaps", cover.CheckInfill(small(), classes(), []cover.Line{first()}, 2, offers(), nil), api.OK)
	same(t, "CheckInfill without gaps and offers", cover.CheckInfill(small(), classes(), []cover.Line{first()}, 2, nil, nil), api.OK)
	same(t, "CheckInfill without offers", cover.CheckInfill(small(), classes(), []cover.Line{first()}, 2, nil, []int{0}), api.ErrMany)
}

// P4.4: CheckPrices.
func TestCheckPrices(t *testing.T) {
	for _, x := range []struct {
		prices []int
		sum    int
		e      api.Errno
	}{
		{[]int{30, 35}, 65, api.OK}, {[]int{25, 40}, 65, api.OK}, {[]int{0, 0}, 0, api.OK}, {[]int{7, 8}, 15, api.OK}, {[]int{30, 0}, 30, api.OK},
		{[]int{30, 36}, 0, api.ErrProof}, {[]int{31, 0}, 0, api.ErrProof}, {[]int{0, 41}, 0, api.ErrProof}, {[]int{999999999, 999999999}, 0, api.ErrProof},
		{nil, 0, api.ErrShape}, {[]int{30}, 0, api.ErrShape}, {[]int{30, 35, 0}, 0, api.ErrShape}, {[]int{-1}, 0, api.ErrShape}, {make([]int, 100000), 0, api.ErrShape},
		{[]int{-1, 0}, 0, api.ErrRange}, {[]int{0, -1}, 0, api.ErrRange}, {[]int{1000000000, 0}, 0, api.ErrRange}, {[]int{0, math.MaxInt}, 0, api.ErrRange}, {[]int{31, math.MinInt}, 0, api.ErrRange},
	} {
		n, e := cover.CheckPrices(small(), classes(), []cover.Line{first()}, 3, offers(), x.prices)
		fails(t, "CheckPrices", n, e, x.e)
		same(t, "CheckPrices", []any{x.prices, n}, []any{x.prices, x.sum})
	}
	// what an offer adds beyond the need is not paid
	n, e := cover.CheckPrices(small(), classes(), nil, 1, offers(), []int{30, 35})
	ok(t, "CheckPrices", e)
	same(t, "CheckPrices of the need alone", n, 65)
	n, e = cover.CheckPrices(small(), classes(), nil, 2, offers(), []int{30, 35})
	fails(t, "CheckPrices of twice the need", n, e, api.ErrProof)
	// where nothing is needed, and where nothing is offered, each price is permitted
	n, e = cover.CheckPrices(small(), classes(), []cover.Line{first()}, 2, offers(), []int{999999999, 999999999})
	ok(t, "CheckPrices", e)
	same(t, "CheckPrices without gaps", n, 0)
	n, e = cover.CheckPrices(cover.Grid{Width: 1, Height: 1, Columns: 16, Rows: 16}, classes(), nil, 1000, nil, slices.Repeat([]int{999999999}, 256))
	ok(t, "CheckPrices", e)
	same(t, "CheckPrices without offers", n, 256000*999999999)
}

// P4.4: all four functions by the definitions.
func TestInfillDefined(t *testing.T) {
	r := random(6)
	count := map[string]int{}
	for range 1500 {
		g, classes, l, want := r.grid(), r.classes(), r.lines(2), 1+r.below(5)
		g.Columns, g.Rows, g.Height = 1+r.below(2), 1+r.below(2), g.Height+60
		offers := r.offers(7, 1+r.below(20))
		x := taskOf(g, classes, l, want, offers)
		infill, found := x.infill()
		got, n, e := cover.Infill(g, classes, l, want, offers)
		if found {
			ok(t, "Infill", e)
			same(t, "Infill by the definition", got, infill)
			same(t, "the minutes of Infill", n, x.cost(infill))
			count["infills"] += min(1, len(infill)/2)
		} else {
			fails(t, "Infill", got, e, api.ErrInfeasible)
			count["no infills"]++
		}
		prices, found := x.prices()
		p, e := cover.Prices(g, classes, l, want, offers)
		if found {
			ok(t, "Prices", e)
			same(t, "Prices by the definition", p, prices)
			count["prices"] += min(1, slices.Max(prices))
		} else {
			fails(t, "Prices", p, e, api.ErrInfeasible)
			prices = make([]int, g.Columns*g.Rows)
		}
		chosen := r.subset(len(offers))
		wanted := api.ErrInfeasible
		if x.reaches(chosen) {
			wanted = api.OK
			count["choices"]++
		}
		same(t, "CheckInfill by the definition", cover.CheckInfill(g, classes, l, want, offers, chosen), wanted)
		bin := r.below(len(prices))
		prices[bin] = max(0, prices[bin]+r.integer(2))
		sum, proved := x.proves(prices)
		n, e = cover.CheckPrices(g, classes, l, want, offers, prices)
		if proved {
			ok(t, "CheckPrices", e)
			same(t, "CheckPrices by the definition", n, sum)
		} else {
			fails(t, "CheckPrices", n, e, api.ErrProof)
			count["no proofs"]++
		}
	}
	for _, what := range []string{"infills", "no infills", "prices", "choices", "no proofs"} {
		if count[what] < 50 {
			t.Errorf("%d %s alone", count[what], what)
		}
	}
}

// P4.4: twelve offers, all of which are needed, and the last ones of which are.
func TestTwelveOffers(t *testing.T) {
	all := auction(12)
	for i := range all {
		all[i].Minutes = 10000
	}
	l, n, e := cover.Infill(small(), classes(), nil, 24, all)
	ok(t, "Infill", e)
	same(t, "Infill of all", l, upTo(12))
	same(t, "the minutes of all", n, 120000)
	l, n, e = cover.Infill(small(), classes(), nil, 20, all)
	ok(t, "Infill", e)
	same(t, "Infill of the first ten", l, upTo(10))
	same(t, "the minutes of the first ten", n, 100000)
	for i := range all {
		all[i].Minutes -= i
	}
	l, _, e = cover.Infill(small(), classes(), nil, 3, all)
	ok(t, "Infill", e)
	same(t, "Infill of the last two", l, []int{10, 11})
}

// P4.4: names of lines that are no offers do not matter.
func TestOfferNames(t *testing.T) {
	o := offers()
	o[1].Line.Name = "a"
	l, _, e := cover.Infill(small(), classes(), []cover.Line{first()}, 3, o)
	ok(t, "Infill with an offer of the name of a line", e)
	same(t, "Infill with an offer of the name of a line", l, []int{2})
}

// P4.4: the errors of the four functions, and their order.
func TestInfillErrors(t *testing.T) {
	check := func(what string, g cover.Grid, classes []int, l []cover.Line, want int, offers []cover.Offer, wanted api.Errno) {
		t.Helper()
		for _, last := range [][]int{nil, {0}, {-1, -1, -1}} {
			same(t, "CheckInfill: "+what, cover.CheckInfill(g, classes, l, want, offers, last), wanted)
			n, e := cover.CheckPrices(g, classes, l, want, offers, last)
			fails(t, "CheckPrices: "+what, n, e, wanted)
		}
		chosen, n, e := cover.Infill(g, classes, l, want, offers)
		fails(t, "Infill: "+what, chosen, e, wanted)
		same(t, "the minutes of Infill: "+what, n, 0)
		p, e := cover.Prices(g, classes, l, want, offers)
		fails(t, "Prices: "+what, p, e, wanted)
	}
	twice := []cover.Line{first(), first()}
	for _, g := range badGrids() {
		check("a grid", g, classes(), nil, 1, offers(), api.ErrRange)
		check("a grid before its classes", g, nil, twice, 0, auction(13), api.ErrRange)
	}
	for _, x := range badClasses() {
		check("classes", small(), x.l, nil, 1, offers(), x.e)
		check("classes before lines", small(), x.l, twice, 0, auction(13), x.e)
	}
	for _, x := range badLists() {
		check(x.what, small(), classes(), x.l, 1, offers(), x.e)
		check(x.what+" before a wanted fold", small(), classes(), x.l, 0, auction(13), x.e)
	}
	for _, n := range badWants {
		check("a wanted fold", small(), classes(), nil, n, offers(), api.ErrRange)
		check("a wanted fold before offers", small(), classes(), nil, n, auction(13), api.ErrRange)
	}
	for _, x := range badOffers() {
		check("offers: "+x.what, small(), classes(), nil, 1, x.l, x.e)
		// also where there are no gaps
		check("offers without gaps: "+x.what, small(), classes(), []cover.Line{first()}, 1, x.l, x.e)
	}
}

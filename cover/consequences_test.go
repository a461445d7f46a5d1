package cover_test

import (
	"slices"
	"testing"

	"moveout/api"
	"moveout/cover"
)

// rounds is how many random lines a consequence is tried with.
const rounds = 200

// coverageIn returns the coverage of lines, without an error.
func coverageIn(t *testing.T, g cover.Grid, classes []int, l ...cover.Line) []int {
	t.Helper()
	c, e := cover.Coverage(g, classes, l)
	ok(t, "Coverage", e)
	return c
}

// P4.6, P5: folds are the counts of the places that lie in the bins and have a class.
func TestFoldsAreCounts(t *testing.T) {
	r := random(11)
	counted := 0
	for range rounds {
		g, classes, l := r.grid(), r.classes(), r.lines(4)
		coverage := make([]int, g.Columns*g.Rows*len(classes))
		fold := make([]int, g.Columns*g.Rows)
		for _, line := range l {
			places, e := cover.Places(line)
			ok(t, "Places", e)
			for _, p := range places {
				bin, e := cover.Bin(g, p)
				ok(t, "Bin", e)
				class, e := cover.Class(classes, p)
				ok(t, "Class", e)
				if bin >= 0 && class >= 0 {
					coverage[bin*len(classes)+class]++
					fold[bin]++
					counted++
				}
			}
		}
		same(t, "Coverage as counts", coverageIn(t, g, classes, l...), coverage)
		f, e := cover.Fold(g, classes, l)
		ok(t, "Fold", e)
		same(t, "Fold as counts", f, fold)
		gaps, e := cover.Gaps(g, classes, l, 2)
		ok(t, "Gaps", e)
		for bin, n := range fold {
			same(t, "a gap", slices.Contains(gaps, bin), n < 2)
		}
	}
	if counted < rounds {
		t.Errorf("%d places were counted alone", counted)
	}
}

// P4.6: a line and its reversed one cover alike; reversed twice it is the line again.
func TestReversedCoversAlike(t *testing.T) {
	r := random(12)
	for range rounds {
		g, classes, l := r.grid(), r.classes(), r.line("a")
		back, e := cover.Reversed(l)
		ok(t, "Reversed", e)
		same(t, "Coverage of a reversed line", coverageIn(t, g, classes, back), coverageIn(t, g, classes, l))
		again, e := cover.Reversed(back)
		ok(t, "Reversed", e)
		same(t, "a line reversed twice", again, l)
	}
}

// P4.6: a line and its parts cover alike.
func TestPartsCoverAlike(t *testing.T) {
	r := random(13)
	for range rounds {
		g, classes, l := r.grid(), r.classes(), r.line("a")
		sum := make([]int, g.Columns*g.Rows*len(classes))
		var places []cover.Place
		for from := 0; from < l.Shots; {
			to := from + 1 + r.below(l.Shots-from)
			part, e := cover.Cut(l, api.Span{From: from, To: to})
			ok(t, "Cut", e)
			for i, n := range coverageIn(t, g, classes, part) {
				sum[i] += n
			}
			p, e := cover.Places(part)
			ok(t, "Places", e)
			places = append(places, p...)
			from = to
		}
		same(t, "the coverages of the parts together", sum, coverageIn(t, g, classes, l))
		p, e := cover.Places(l)
		ok(t, "Places", e)
		same(t, "the places of the parts", places, p)
	}
}

// P4.6: a line and a grid that are shifted cover as before.
func TestShiftedCoversAsBefore(t *testing.T) {
	r := random(14)
	for range rounds {
		g, classes, l, by := r.grid(), r.classes(), r.line("a"), r.point(90000)
		moved, e := cover.Shifted(l, by)
		ok(t, "Shifted", e)
		before := coverageIn(t, g, classes, l)
		g.Origin = at(g.Origin.X+by.X, g.Origin.Y+by.Y)
		same(t, "Coverage of a shifted line", coverageIn(t, g, classes, moved), before)
		back, e := cover.Shifted(moved, at(-by.X, -by.Y))
		ok(t, "Shifted", e)
		same(t, "a line shifted there and back", back, l)
	}
}

// P4.3: a line that is feathered there and back is the line again, and its sources stay.
func TestFeatheredBack(t *testing.T) {
	r := random(15)
	for range rounds {
		l, by := r.line("a"), r.point(5000)
		x, e := cover.Feathered(l, by)
		ok(t, "Feathered", e)
		p, e := cover.Places(x)
		ok(t, "Places", e)
		for i, q := range placesOf(l) {
			k := i % l.Channels
			same(t, "a place of a feathered line", p[i], between(q.Source, at(q.Receiver.X+k*by.X, q.Receiver.Y+k*by.Y)))
		}
		back, e := cover.Feathered(x, at(-by.X, -by.Y))
		ok(t, "Feathered", e)
		same(t, "a line feathered there and back", back, l)
	}
}

// P4.6, P5: an infill reaches the fold, no choice that does has fewer minutes, and no prices prove more.
func TestInfillIsCheapest(t *testing.T) {
	r := random(16)
	infills, equal := 0, 0
	for range 3 * rounds {
		g, classes, l, want := r.grid(), r.classes(), r.lines(2), 1+r.below(4)
		g.Columns, g.Rows, g.Height = 1+r.below(2), 1, g.Height+100
		offers := r.offers(6, 30)
		infill, minutes, e := cover.Infill(g, classes, l, want, offers)
		for _, choice := range choicesOf(0, len(offers)) {
			cost := 0
			together := slices.Clone(l)
			for _, i := range choice {
				cost += offers[i].Minutes
				offer := offers[i].Line
				offer.Name = "o" + offer.Name
				together = append(together, offer)
			}
			gaps, e1 := cover.Gaps(g, classes, together, want)
			ok(t, "Gaps of lines and offers", e1)
			reached := cover.CheckInfill(g, classes, l, want, offers, choice) == api.OK
			same(t, "whether a choice reaches the fold", reached, len(gaps) == 0)
			if reached && (e != api.OK || cost < minutes) {
				t.Errorf("the choice %v has %d minutes, the infill %v has %d", choice, cost, infill, minutes)
			}
		}
		if e != api.OK {
			continue
		}
		infills++
		same(t, "CheckInfill of the infill", cover.CheckInfill(g, classes, l, want, offers, infill), api.OK)
		prices, e := cover.Prices(g, classes, l, want, offers)
		ok(t, "Prices where there is an infill", e)
		proved, e := cover.CheckPrices(g, classes, l, want, offers, prices)
		ok(t, "CheckPrices of the first prices", e)
		if proved > minutes {
			t.Errorf("the first prices prove %d, but the infill has %d minutes", proved, minutes)
		}
		if proved == minutes && minutes > 0 {
			equal++
		}
		for range 20 {
			other := moved(prices, r.point(15))
			if n, e := cover.CheckPrices(g, classes, l, want, offers, other); e == api.OK && n > minutes {
				t.Errorf("the prices %v prove %d, but the infill has %d minutes", other, n, minutes)
			}
		}
	}
	if infills < 100 || equal < 10 {
		t.Errorf("%d infills alone, %d of which are proved by the first prices", infills, equal)
	}
}

// moved returns prices of which the first and the last one are others.
func moved(prices []int, by api.Point) []int {
	l := slices.Clone(prices)
	l[0] = max(0, l[0]+by.X)
	l[len(l)-1] = max(0, l[len(l)-1]+by.Y)
	return l
}

// P4.4: the first prices prove something also where no choice reaches the fold.
func TestFirstPricesProve(t *testing.T) {
	r := random(17)
	proofs := 0
	for range rounds {
		g, classes, l, want, offers := r.grid(), r.classes(), r.lines(3), 1+r.below(50), r.offers(12, 500)
		g.Columns, g.Rows = 1+r.below(2), 1
		prices, e := cover.Prices(g, classes, l, want, offers)
		if e != api.OK {
			continue
		}
		_, e = cover.CheckPrices(g, classes, l, want, offers, prices)
		ok(t, "CheckPrices of the first prices", e)
		// a bin with a need could not have a higher price
		for bin, need := range needsOf(g, classes, l, want) {
			higher := slices.Clone(prices)
			higher[bin]++
			clear(higher[bin+1:])
			if need > 0 {
				n, e := cover.CheckPrices(g, classes, l, want, offers, higher)
				fails(t, "CheckPrices of a higher price", n, e, api.ErrProof)
				proofs++
			}
		}
	}
	if proofs < 50 {
		t.Errorf("%d prices alone", proofs)
	}
}

// P4.6: no order has fewer minutes than the least one, nor than the tree.
func TestLeastOrder(t *testing.T) {
	r := random(18)
	for range rounds {
		turns := r.turns(r.below(6), 1+r.below(30))
		order, least, e := cover.Order(turns)
		ok(t, "Order", e)
		_, tree, e := cover.Tree(turns)
		ok(t, "Tree", e)
		if tree > least {
			t.Errorf("the tree of %v has %d minutes, the least order %d", turns, tree, least)
		}
		for _, o := range ordersOf(upTo(len(turns))) {
			n, e := cover.CheckOrder(turns, o)
			ok(t, "CheckOrder", e)
			if n < least || n == least && slices.Compare(o, order) < 0 {
				t.Errorf("%v has %d minutes, the least order %v %d", o, n, order, least)
			}
		}
	}
}

// P4.5: the numbers of a line with itself have no part.
func TestTurnsWithThemselves(t *testing.T) {
	r := random(19)
	for range rounds {
		turns := r.turns(r.below(7), 30)
		o, n, e := cover.Order(turns)
		ok(t, "Order", e)
		p, m, e := cover.Tree(turns)
		ok(t, "Tree", e)
		for i := range turns {
			turns[i][i] = r.below(10001)
		}
		o1, n1, e := cover.Order(turns)
		ok(t, "Order", e)
		p1, m1, e := cover.Tree(turns)
		ok(t, "Tree", e)
		same(t, "Order with other numbers of lines with themselves", []any{o1, n1}, []any{o, n})
		same(t, "Tree with other numbers of lines with themselves", []any{p1, m1}, []any{p, m})
	}
}

// P4.6: lines are parsed as they were printed.
func TestParsePrinted(t *testing.T) {
	r := random(20)
	for range rounds {
		l := r.lines(6)
		text, e := cover.Print(l)
		ok(t, "Print", e)
		back, i, e := cover.Parse(text)
		ok(t, "Parse", e)
		same(t, "Parse of Print", back, l)
		same(t, "the index", i, 0)
	}
}

package survey_test

import (
	"math/big"
	"slices"

	"moveout/api"
	"moveout/survey"
)

// The functions of this file follow the definitions of the chapter word by word, for small arguments.

// placeOf returns the place of a vessel at a tick.
func placeOf(v survey.Vessel, tick int) api.Point {
	return point(v.Start.X+tick*v.Step.X, v.Start.Y+tick*v.Step.Y)
}

// insideOf reports whether an animal may be inside at a tick.
func insideOf(v survey.Vessel, w survey.Watch, l []survey.Sighting, tick int) bool {
	for _, s := range l {
		if s.Tick > tick || tick-s.Tick > w.Loss {
			continue
		}
		at := placeOf(v, tick)
		x, y, reach := int64(at.X-s.Place.X), int64(at.Y-s.Place.Y), int64(w.Ring+w.Speed*(tick-s.Tick))
		distance := new(big.Int).Add(new(big.Int).Mul(big.NewInt(x), big.NewInt(x)), new(big.Int).Mul(big.NewInt(y), big.NewInt(y)))
		if distance.Cmp(new(big.Int).Mul(big.NewInt(reach), big.NewInt(reach))) <= 0 {
			return true
		}
	}
	return false
}

// quietOf returns the quiet of a tick.
func quietOf(v survey.Vessel, w survey.Watch, l []survey.Sighting, tick int) int {
	if insideOf(v, w, l, tick) {
		return 0
	}
	if tick == 0 {
		return 1
	}
	return 1 + quietOf(v, w, l, tick-1)
}

// levelOf returns the level of a tick.
func levelOf(v survey.Vessel, w survey.Watch, l []survey.Sighting, tick int) int {
	level := quietOf(v, w, l, tick) - w.Clear
	if level < 0 {
		return 0
	}
	if level > w.Soft+1 {
		return w.Soft + 1
	}
	return level
}

// insidesOf and levelsOf return what holds at each tick.
func insidesOf(v survey.Vessel, w survey.Watch, l []survey.Sighting) []bool {
	var out []bool
	for tick := range v.Ticks {
		out = append(out, insideOf(v, w, l, tick))
	}
	return out
}

func levelsOf(v survey.Vessel, w survey.Watch, l []survey.Sighting) []int {
	var out []int
	for tick := range v.Ticks {
		out = append(out, levelOf(v, w, l, tick))
	}
	return out
}

// firesOf returns the error of shots, each of which is at a tick of the vessel.
func firesOf(v survey.Vessel, w survey.Watch, l []survey.Sighting, fires []survey.Fire) api.Errno {
	for _, f := range fires {
		if f.Level > levelOf(v, w, l, f.Tick) {
			if insideOf(v, w, l, f.Tick) {
				return api.ErrInside
			}
			return api.ErrRule
		}
	}
	return api.OK
}

// silentOf returns the silent spans: each from a tick behind no silent one up to one that is not silent.
func silentOf(v survey.Vessel, w survey.Watch, l []survey.Sighting) []api.Span {
	levels := levelsOf(v, w, l)
	silent := func(tick int) bool { return tick >= 0 && tick < len(levels) && levels[tick] == 0 }
	var out []api.Span
	for from := range levels {
		if !silent(from) || silent(from-1) {
			continue
		}
		to := from
		for silent(to) {
			to++
		}
		out = append(out, span(from, to))
	}
	return out
}

// liesIn reports whether a tick lies in a span of a list.
func liesIn(tick int, l []api.Span) bool {
	for _, x := range l {
		if tick >= x.From && tick < x.To {
			return true
		}
	}
	return false
}

// windowOf returns the first window of so many ticks, and whether there is one.
func windowOf(v survey.Vessel, w survey.Watch, l []survey.Sighting, shares []api.Span, ticks int) (int, bool) {
	levels := levelsOf(v, w, l)
	for from := range v.Ticks {
		is := true
		for tick := from; tick < from+ticks; tick++ {
			is = is && tick < v.Ticks && levels[tick] == w.Soft+1 && liesIn(tick, shares)
		}
		if is {
			return from, true
		}
	}
	return 0, false
}

// mergedOf returns merged entries: two that are one are merged until there are none.
func mergedOf(l []survey.Entry) []survey.Entry {
	for i := 1; i < len(l); i++ {
		a, b := l[i-1], l[i]
		if a.Cause == b.Cause && a.Span.To == b.Span.From {
			return mergedOf(slices.Concat(l[:i-1], entries(entry(a.Span.From, b.Span.To, a.Cause)), l[i+1:]))
		}
	}
	return l
}

// diaryOf returns the diary of a vessel, of whatever length.
func diaryOf(v survey.Vessel, w survey.Watch, l []survey.Sighting, shares, weather []api.Span) []survey.Entry {
	var out []survey.Entry
	for tick := range v.Ticks {
		cause := "shoot"
		if levelOf(v, w, l, tick) == 0 {
			cause = "animal"
		}
		if !liesIn(tick, shares) {
			cause = "share"
		}
		if liesIn(tick, weather) {
			cause = "weather"
		}
		out = append(out, entry(tick, tick+1, cause))
	}
	return mergedOf(out)
}

// causesOf returns the causes of all ticks of entries.
func causesOf(l []survey.Entry) []string {
	var out []string
	for _, x := range l {
		for tick := x.Span.From; tick < x.Span.To; tick++ {
			out = append(out, x.Cause)
		}
	}
	return out
}

// hoursOf returns the ticks of each cause.
func hoursOf(l []survey.Entry) [6]int {
	var out [6]int
	for _, word := range causesOf(l) {
		switch word {
		case "shoot":
			out[0]++
		case "turn":
			out[1]++
		case "weather":
			out[2]++
		case "animal":
			out[3]++
		case "gear":
			out[4]++
		case "share":
			out[5]++
		}
	}
	return out
}

// downtimeOf returns the downtime of some entries.
func downtimeOf(l []survey.Entry) api.Ratio {
	all, down := causesOf(l), 0
	for _, word := range all {
		if word != "shoot" && word != "turn" {
			down++
		}
	}
	x := big.NewRat(int64(down), int64(len(all)))
	return api.Ratio{Num: int(x.Num().Int64()), Den: int(x.Denom().Int64())}
}

// invoiceOf returns the invoice of a contract.
func invoiceOf(c survey.Contract, l []survey.Entry, lines []survey.Result) survey.Invoice {
	h := hoursOf(l)
	weather := 0
	if h[2] > c.Free {
		weather = h[2] - c.Free
	}
	out := survey.Invoice{Causes: [6]int{h[0] * c.Shoot, h[1] * c.Turn, weather * c.Weather, h[3] * c.Animal, h[4] * c.Gear, h[5] * c.Share}}
	for _, r := range lines {
		if r.Fold >= r.Want {
			out.Lines += c.Bonus
		} else {
			out.Lines -= c.Penalty
		}
	}
	out.Total = out.Causes[0] + out.Causes[1] + out.Causes[2] + out.Causes[3] + out.Causes[4] + out.Causes[5] + out.Lines
	return out
}

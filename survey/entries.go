package survey

import (
	"iter"
	"slices"

	"moveout/api"
	"moveout/common"
)

// The words of causes.
const (
	causeShoot   = "shoot"
	causeTurn    = "turn"
	causeWeather = "weather"
	causeAnimal  = "animal"
	causeGear    = "gear"
	causeShare   = "share"
)

// cause is a word, whether its ticks are downtime, and what takes its rate from a contract.
type cause struct {
	word string
	down bool
	rate func(c Contract) int
}

// causes returns all causes, in order.
func causes() [6]cause {
	return [6]cause{
		{causeShoot, false, func(c Contract) int { return c.Shoot }},
		{causeTurn, false, func(c Contract) int { return c.Turn }},
		{causeWeather, true, func(c Contract) int { return c.Weather }},
		{causeAnimal, true, func(c Contract) int { return c.Animal }},
		{causeGear, true, func(c Contract) int { return c.Gear }},
		{causeShare, true, func(c Contract) int { return c.Share }},
	}
}

// numbers returns the number of each cause in their order, by its word.
func numbers() map[string]int {
	out := map[string]int{}
	for i, x := range causes() {
		out[x.word] = i
	}
	return out
}

// Causes returns all causes, in order.
func Causes() []string {
	all := causes()
	return common.Each(all[:], func(x cause) string { return x.word })
}

// stretch returns the span of an entry.
func (x Entry) stretch() stretch {
	return stretch(x.Span)
}

// follows reports whether an entry begins at or after the end of another one.
func (x Entry) follows(before Entry) bool {
	return x.stretch().follows(before.stretch())
}

// check returns the first error of an entry whose cause has to be one of those with numbers, or OK.
func (x Entry) check(known map[string]int) api.Errno {
	if e := x.stretch().check(); e != api.OK {
		return e
	}
	if _, is := known[x.Cause]; !is {
		return api.ErrKind
	}
	return api.OK
}

// CheckEntries returns the first error of entries, or OK.
func CheckEntries(l []Entry) api.Errno {
	if len(l) > MaxEntries {
		return api.ErrMany
	}
	known := numbers()
	return common.CheckSuccessive(l, Entry.follows, func(x Entry) api.Errno { return x.check(known) })
}

// extends reports whether an entry has the cause of another one, and begins where that one ends.
func (x Entry) extends(before Entry) bool {
	return x.Cause == before.Cause && x.Span.From == before.Span.To
}

// Merged returns entries in which successive ones with the same cause that touch are one.
func Merged(l []Entry) ([]Entry, api.Errno) {
	if e := CheckEntries(l); e != api.OK {
		return nil, e
	}
	out := slices.Clone(l)
	for i := len(out) - 1; i > 0; i-- {
		if out[i].extends(out[i-1]) {
			out[i-1].Span.To = out[i].Span.To
			out = slices.Delete(out, i, i+1)
		}
	}
	return out, api.OK
}

// tickCauses visits the causes of all ticks of entries, in the order of time.
func tickCauses(l []Entry) iter.Seq[string] {
	return func(yield func(string) bool) {
		for _, x := range l {
			for range x.Span.To - x.Span.From {
				if !yield(x.Cause) {
					return
				}
			}
		}
	}
}

// hours returns the ticks of each cause in entries without an error.
func hours(l []Entry) [6]int {
	number := numbers()
	var out [6]int
	for _, x := range l {
		out[number[x.Cause]] += x.Span.To - x.Span.From
	}
	return out
}

// Hours returns the ticks of each cause.
func Hours(l []Entry) ([6]int, api.Errno) {
	if e := CheckEntries(l); e != api.OK {
		return [6]int{}, e
	}
	return hours(l), api.OK
}

// Downtime returns the share of ticks that were neither shot nor turned.
func Downtime(l []Entry) (api.Ratio, api.Errno) {
	h, e := Hours(l)
	if e != api.OK {
		return api.Ratio{}, e
	}
	// No entry is empty, so that only no entries have no ticks.
	if h == [6]int{} {
		return api.Ratio{}, api.ErrEmpty
	}
	var down api.Ratio
	for i, x := range causes() {
		down.Den += h[i]
		if x.down {
			down.Num += h[i]
		}
	}
	return common.Lowest(down), api.OK
}

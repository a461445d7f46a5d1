package cover

import (
	"slices"

	"moveout/api"
	"moveout/common"
)

// measured is an offer with its index, and the lesser one of what it adds and the need, for each bin.
type measured struct {
	Offer
	index int
	helps []int
}

// isIdle reports whether an offer helps no bin.
func (m measured) isIdle() bool {
	return slices.Max(m.helps) == 0
}

// plan is the needs of all bins, and all offers.
type plan struct {
	needs  []int
	offers []measured
}

// checkOffers returns the first error of offers, or OK.
func checkOffers(l []Offer) api.Errno {
	if len(l) > MaxOffers {
		return api.ErrMany
	}
	call := rollCall()
	return common.FirstOf(l, func(o Offer) api.Errno {
		return common.First(call(o.Line), common.CheckRange(o.Minutes, 1, MaxMinutes))
	})
}

// planOf returns the plan for a wanted fold, or the first error of what it is made of.
func planOf(g Grid, classes []int, l []Line, want int, offers []Offer) (plan, api.Errno) {
	if e := common.First(checkLinesOn(g, classes, l), checkWant(want), checkOffers(offers)); e != api.OK {
		return plan{}, e
	}
	p := plan{needs: needs(g, classes, l, want)}
	for i, o := range offers {
		helps := folds(g, classes, []Line{o.Line})
		for bin, need := range p.needs {
			helps[bin] = min(helps[bin], need)
		}
		p.offers = append(p.offers, measured{Offer: o, index: i, helps: helps})
	}
	return p, api.OK
}

// reaches reports whether some offers reach the wanted fold.
func (p plan) reaches(chosen []measured) bool {
	// What an offer adds to a bin beyond its need makes no difference: the offer reaches the fold there alone.
	left := slices.Clone(p.needs)
	for _, m := range chosen {
		for bin, n := range m.helps {
			left[bin] -= n
		}
	}
	return slices.Max(left) <= 0
}

// cheapest returns the offers of the infill and its minutes, and whether there is one.
func (p plan) cheapest() ([]measured, int, bool) {
	// An idle offer is in no infill: without it the others reach the fold in fewer minutes.
	useful := slices.DeleteFunc(slices.Clone(p.offers), measured.isIdle)
	var infill []measured
	least, found := MaxOffers*MaxMinutes+1, false
	// Downwards, so that of the choices with the same minutes the first one comes first: that of the first offers, which have the highest bits.
search:
	for set := 1<<len(useful) - 1; set >= 0; set-- {
		chosen := common.Subset(useful, set)
		minutes := 0
		for _, m := range chosen {
			minutes += m.Minutes
			if minutes >= least {
				continue search
			}
		}
		if p.reaches(chosen) {
			infill, least, found = chosen, minutes, true
		}
	}
	return infill, least, found
}

// checkChoice returns the first error of a choice of so many offers, or OK.
func checkChoice(chosen []int, offers int) api.Errno {
	if len(chosen) > offers {
		return api.ErrMany
	}
	return common.CheckIndices(chosen, offers)
}

// CheckInfill returns OK for offers that reach a wanted fold.
func CheckInfill(g Grid, classes []int, l []Line, want int, offers []Offer, chosen []int) api.Errno {
	p, e := planOf(g, classes, l, want, offers)
	if e != api.OK {
		return e
	}
	if e := checkChoice(chosen, len(offers)); e != api.OK {
		return e
	}
	if !p.reaches(common.Each(chosen, func(i int) measured { return p.offers[i] })) {
		return api.ErrInfeasible
	}
	return api.OK
}

// Infill returns the offers with the fewest minutes that reach a wanted fold.
func Infill(g Grid, classes []int, l []Line, want int, offers []Offer) ([]int, int, api.Errno) {
	p, e := planOf(g, classes, l, want, offers)
	if e != api.OK {
		return nil, 0, e
	}
	infill, minutes, found := p.cheapest()
	if !found {
		return nil, 0, api.ErrInfeasible
	}
	return common.Each(infill, func(m measured) int { return m.index }), minutes, api.OK
}

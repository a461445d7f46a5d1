package cover

import (
	"moveout/api"
	"moveout/common"
)

// worth returns the sum of the prices of all bins, each times a number of the bin.
func worth(prices, counts []int) int {
	sum := 0
	for bin, price := range prices {
		sum += price * counts[bin]
	}
	return sum
}

// price returns the price of a bin that has a need, and whether an offer adds something to it; the prices of this bin and of all behind it are still 0.
func (p plan) price(bin int, prices []int) (int, bool) {
	least, found := 0, false
	for _, m := range p.offers {
		if m.helps[bin] == 0 {
			continue
		}
		// It is never below 0: the price of each bin leaves of the minutes what is not spent.
		most := (m.Minutes - worth(prices, m.helps)) / m.helps[bin]
		if !found || most < least {
			least, found = most, true
		}
	}
	return least, found
}

// Prices returns a price for each bin.
func Prices(g Grid, classes []int, l []Line, want int, offers []Offer) ([]int, api.Errno) {
	p, e := planOf(g, classes, l, want, offers)
	if e != api.OK {
		return nil, e
	}
	prices := make([]int, len(p.needs))
	for bin, need := range p.needs {
		if need == 0 {
			continue
		}
		price, found := p.price(bin, prices)
		if !found {
			return nil, api.ErrInfeasible
		}
		prices[bin] = price
	}
	return prices, api.OK
}

// checkPriceList returns the first error of prices for so many bins, or OK.
func checkPriceList(prices []int, bins int) api.Errno {
	if len(prices) != bins {
		return api.ErrShape
	}
	return common.FirstOf(prices, func(price int) api.Errno { return common.CheckRange(price, 0, api.MaxNumber) })
}

// CheckPrices returns the minutes that prices prove to be the fewest.
func CheckPrices(g Grid, classes []int, l []Line, want int, offers []Offer, prices []int) (int, api.Errno) {
	p, e := planOf(g, classes, l, want, offers)
	if e != api.OK {
		return 0, e
	}
	if e := checkPriceList(prices, len(p.needs)); e != api.OK {
		return 0, e
	}
	for _, m := range p.offers {
		if worth(prices, m.helps) > m.Minutes {
			return 0, api.ErrProof
		}
	}
	return worth(prices, p.needs), api.OK
}

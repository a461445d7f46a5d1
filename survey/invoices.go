package survey

import (
	"moveout/api"
	"moveout/common"
	"moveout/trace"
)

// CheckContract returns the first error of a contract, or OK.
func CheckContract(c Contract) api.Errno {
	all := causes()
	return common.First(
		common.FirstOf(all[:], func(x cause) api.Errno { return common.CheckRange(x.rate(c), -MaxRate, MaxRate) }),
		common.CheckRange(c.Free, 0, api.MaxTime),
		common.CheckRange(c.Bonus, 0, MaxRate),
		common.CheckRange(c.Penalty, 0, MaxRate),
	)
}

func (r Result) checkLine() api.Errno {
	if !trace.IsName(r.Line) {
		return api.ErrName
	}
	return api.OK
}

func (r Result) checkFolds() api.Errno {
	return common.First(common.CheckRange(r.Fold, 0, MaxRate), common.CheckRange(r.Want, 0, MaxRate))
}

// CheckResults returns the first error of results, or OK.
func CheckResults(l []Result) api.Errno {
	if len(l) > MaxLines {
		return api.ErrMany
	}
	call := common.RollCall(Result.checkLine, func(r Result) string { return r.Line })
	return common.FirstOf(l, func(r Result) api.Errno { return common.First(call(r), r.checkFolds()) })
}

func (r Result) isAccepted() bool {
	return r.Fold >= r.Want
}

// Accepted returns the lines that have their fold, and those that do not.
func Accepted(l []Result) ([]string, []string, api.Errno) {
	if e := CheckResults(l); e != api.OK {
		return nil, nil, e
	}
	var accepted, others []string
	for _, r := range l {
		if r.isAccepted() {
			accepted = append(accepted, r.Line)
		} else {
			others = append(others, r.Line)
		}
	}
	return accepted, others, api.OK
}

// summed returns an invoice with its total.
func (x Invoice) summed() Invoice {
	x.Total = x.Lines
	for _, money := range x.Causes {
		x.Total += money
	}
	return x
}

// Bill returns the invoice, entry by entry.
func Bill(c Contract, l []Entry, lines []Result) (Invoice, api.Errno) {
	if e := common.First(CheckContract(c), CheckEntries(l)); e != api.OK {
		return Invoice{}, e
	}
	accepted, others, e := Accepted(lines)
	if e != api.OK {
		return Invoice{}, e
	}
	out := Invoice{Lines: len(accepted)*c.Bonus - len(others)*c.Penalty}
	paid := hours(l)
	weather := numbers()[causeWeather]
	paid[weather] = max(paid[weather]-c.Free, 0)
	for i, x := range causes() {
		out.Causes[i] = paid[i] * x.rate(c)
	}
	return out.summed(), api.OK
}

// ByTicks returns the invoice, tick by tick.
func ByTicks(c Contract, l []Entry, lines []Result) (Invoice, api.Errno) {
	if e := common.First(CheckContract(c), CheckEntries(l), CheckResults(lines)); e != api.OK {
		return Invoice{}, e
	}
	var out Invoice
	all, number, free := causes(), numbers(), c.Free
	for word := range tickCauses(l) {
		if word == causeWeather && free > 0 {
			free--
			continue
		}
		i := number[word]
		out.Causes[i] += all[i].rate(c)
	}
	for _, r := range lines {
		if r.isAccepted() {
			out.Lines += c.Bonus
		} else {
			out.Lines -= c.Penalty
		}
	}
	return out.summed(), api.OK
}

// Differences returns what differs between two invoices.
func Differences(a, b Invoice) ([]string, api.Errno) {
	var out []string
	for i, word := range Causes() {
		if a.Causes[i] != b.Causes[i] {
			out = append(out, word)
		}
	}
	if a.Lines != b.Lines {
		out = append(out, "lines")
	}
	if a.Total != b.Total {
		out = append(out, "total")
	}
	return out, api.OK
}

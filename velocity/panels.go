package velocity

import (
	"moveout/api"
	"moveout/common"
	"moveout/trace"
)

// tally is the number of the live traces at a time, the sum of their integers, and that of the squares of these.
type tally struct {
	count   int
	sum     int
	squares int
}

func (g gather) tally(t, v, stretch int) tally {
	var x tally
	for _, n := range g.live(t, v, stretch) {
		x.count++
		x.sum += n
		x.squares += n * n
	}
	return x
}

// semblance returns the semblance at a time.
func (g gather) semblance(t, v, window, stretch int) api.Ratio {
	var s api.Ratio
	for at := max(0, t-window); at <= min(t+window, g.width-1); at++ {
		x := g.tally(at, v, stretch)
		s.Num += x.sum * x.sum
		s.Den += x.count * x.squares
	}
	if s.Den == 0 {
		return api.Ratio{Num: 0, Den: 1}
	}
	return common.Lowest(s)
}

// Semblance returns the semblance of a gather at a time.
func Semblance(g trace.Shot, t, v, window, stretch int) (api.Ratio, api.Errno) {
	checked, e := gatherOf(g)
	if e := common.First(e, checked.checkTime(t), checkVelocity(v), checkWindow(window), checkStretch(stretch)); e != api.OK {
		return api.Ratio{}, e
	}
	return checked.semblance(t, v, window, stretch), api.OK
}

// Panel returns the panel of a gather.
func Panel(g trace.Shot, x Setting) ([][]int, api.Errno) {
	checked, e := gatherOf(g)
	if e := common.First(e, CheckSetting(x)); e != api.OK {
		return nil, e
	}
	times := x.times(checked.width)
	if e := common.CheckCount(times, MaxTimes); e != api.OK {
		return nil, e
	}
	p := make([][]int, times)
	for i := range times {
		p[i] = common.Each(x.Fan, func(v int) int {
			s := checked.semblance(i*x.Every, v, x.Window, x.Stretch)
			return Unit * s.Num / s.Den
		})
	}
	return p, api.OK
}

// Stacked returns the stack of a gather by a path.
func Stacked(g trace.Shot, x Setting, path []int) ([]float32, api.Errno) {
	checked, e := gatherOf(g)
	if e := common.First(e, CheckSetting(x)); e != api.OK {
		return nil, e
	}
	if len(path) != x.times(checked.width) {
		return nil, api.ErrShape
	}
	squares, e := x.squares(path)
	if e != api.OK {
		return nil, e
	}
	stack := make([]int, checked.width)
	for t := range stack {
		live := checked.tally(t, squares[t/x.Every], x.Stretch)
		if live.count > 0 {
			stack[t] = common.Rounded(live.sum, live.count)
		}
	}
	return common.Samples(stack)
}

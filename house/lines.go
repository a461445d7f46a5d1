package house

import (
	"slices"

	"moveout/api"
	"moveout/common"
)

func (r Register) refuseLine(a act) api.Errno {
	return common.First(common.CheckRange(a.values[1], 1, MaxShots), room(r.Lines, MaxLines))
}

func (r Register) addLine(a act) Register {
	r.Lines = with(r.Lines, Line{Name: a.names[0], Want: a.values[1]})
	return r
}

// last returns the last tick at which the tape of an act is readable.
func (a act) last() int {
	return a.tick() + a.values[1]
}

func (r Register) refuseTape(a act) api.Errno {
	return common.First(when(a.last() > api.MaxNumber, api.ErrLarge), room(r.Tapes, MaxTapes))
}

func (r Register) addTape(a act) Register {
	r.Tapes = with(r.Tapes, Tape{Name: a.names[0], Last: a.last()})
	return r
}

func (t Tape) isReadable(tick int) bool {
	return tick <= t.Last
}

func (r Register) refuseShot(a act) api.Errno {
	return common.First(
		when(found(r.Lines, a.names[1]).Accepted, api.ErrOver),
		when(!found(r.Tapes, a.names[2]).isReadable(a.tick()), api.ErrFaded),
		room(r.Shots, MaxShots),
	)
}

func (r Register) addShot(a act) Register {
	r.Shots = with(r.Shots, Shot{Name: a.names[0], Line: a.names[1], Tapes: []string{a.names[2]}})
	return r
}

func (r Register) refuseCopy(a act) api.Errno {
	from, to := found(r.Tapes, a.names[0]), found(r.Tapes, a.names[1])
	return common.First(
		when(from == to, api.ErrConflict),
		when(!from.isReadable(a.tick()) || !to.isReadable(a.tick()), api.ErrFaded),
	)
}

func (r Register) copyTape(a act) Register {
	r.Shots = common.Each(r.Shots, func(s Shot) Shot { return s.copied(a.names[0], a.names[1]) })
	return r
}

func (s Shot) isOn(tape string) bool {
	return slices.Contains(s.Tapes, tape)
}

// copied returns a shot after a tape was copied to another one.
func (s Shot) copied(from, to string) Shot {
	if s.isOn(from) && !s.isOn(to) {
		s.Tapes = with(s.Tapes, to)
	}
	return s
}

func (r Register) refuseAccept(a act) api.Errno {
	line := found(r.Lines, a.names[0])
	shots := filtered(r.Shots, Shot.isOf, []string{line.Name})
	return common.First(
		when(line.Accepted, api.ErrOver),
		when(len(shots) < line.Want, api.ErrShort),
		when(len(r.notSafe(shots, a.tick())) > 0, api.ErrFaded),
	)
}

func (r Register) acceptLine(a act) Register {
	r.Lines = changed(r.Lines, a.names[0], func(x Line) Line {
		x.Accepted = true
		return x
	})
	return r
}

func (x Line) isOpen() bool {
	return !x.Accepted
}

// isIn reports whether a line is one of some lines with names.
func (x Line) isIn(lines []string) bool {
	return slices.Contains(lines, x.Name)
}

// isOf reports whether a shot is one of some lines with names.
func (s Shot) isOf(lines []string) bool {
	return slices.Contains(lines, s.Line)
}

// shelf is tapes at a tick.
type shelf struct {
	tapes []Tape
	tick  int
}

// isSafe reports whether a shot is on a tape that is readable.
func (s Shot) isSafe(now shelf) bool {
	safe := false
search:
	for _, name := range s.Tapes {
		for _, t := range now.tapes {
			if t.Name == name && t.isReadable(now.tick) {
				safe = true
				break search
			}
		}
	}
	return safe
}

func (s Shot) isUnsafe(now shelf) bool {
	return !s.isSafe(now)
}

// notSafe returns those of some shots that are not safe at a tick.
func (r Register) notSafe(shots []Shot, tick int) []Shot {
	return filtered(shots, Shot.isUnsafe, shelf{tapes: r.Tapes, tick: tick})
}

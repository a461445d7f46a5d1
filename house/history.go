package house

import (
	"moveout/api"
	"moveout/common"
)

// step is what an event that counts says, and the register after it.
type step struct {
	act
	register Register
}

// history is what all events say, and the steps of those that count.
type history struct {
	acts  []act
	steps []step
}

// register returns the register after all events.
func (h history) register() Register {
	if len(h.steps) == 0 {
		return Register{}
	}
	return h.steps[len(h.steps)-1].register
}

// next returns the number of the next event.
func (h history) next() int {
	return len(h.acts) + 1
}

// refuse returns the error with which an event that has none by itself is not accepted, or OK.
func (h history) refuse(e api.Event) api.Errno {
	if e.Number != h.next() {
		return api.ErrOrder
	}
	if e.Kind == kindUndo {
		return h.refuseUndo()
	}
	return h.register().refuse(actOf(e))
}

func (h history) refuseUndo() api.Errno {
	if len(h.steps) == 0 {
		return api.ErrEmpty
	}
	last := h.steps[len(h.steps)-1]
	return when(last.kind == kindRelease, api.ErrRule)
}

// refuse returns the error with which an act other than an undo is not accepted, or OK.
func (r Register) refuse(a act) api.Errno {
	k := kinds()[a.kind]
	if e := common.First(when(a.tick() < r.Tick, api.ErrState), k.checkNames(r, a.names)); e != api.OK {
		return e
	}
	return k.refuse(r, a)
}

// after returns the register after an act that is accepted.
func (r Register) after(a act) Register {
	r = kinds()[a.kind].effect(r, a)
	r.Tick = a.tick()
	return r
}

// add adds an event, or returns the error with which it is not accepted.
func (h *history) add(e api.Event) api.Errno {
	if bad := CheckEvent(e); bad != api.OK {
		return bad
	}
	if bad := h.refuse(e); bad != api.OK {
		return bad
	}
	a := actOf(e)
	if a.kind == kindUndo {
		h.steps = h.steps[:len(h.steps)-1]
	} else {
		h.steps = append(h.steps, step{act: a, register: h.register().after(a)})
	}
	h.acts = append(h.acts, a)
	return api.OK
}

// replayed returns the history of some events, or the number and the error of the first one that is not accepted.
func replayed(l []api.Event) (history, int, api.Errno) {
	if len(l) > api.MaxEvents {
		return history{}, 0, api.ErrMany
	}
	var h history
	for i, x := range l {
		if e := h.add(x); e != api.OK {
			return history{}, i + 1, e
		}
	}
	return h, 0, api.OK
}

// Replay returns the register after some events.
func Replay(l []api.Event) (Register, int, api.Errno) {
	h, n, e := replayed(l)
	return h.register(), n, e
}

// Accepts returns the error with which an event is not accepted after others, or OK.
func Accepts(l []api.Event, e api.Event) api.Errno {
	h, _, bad := replayed(l)
	if bad := common.First(bad, CheckEvent(e), room(l, api.MaxEvents)); bad != api.OK {
		return bad
	}
	return h.refuse(e)
}

// AsOf returns the register of the events up to a tick.
func AsOf(l []api.Event, tick int) (Register, api.Errno) {
	h, _, e := replayed(l)
	if e := common.First(e, checkNumber(tick)); e != api.OK {
		return Register{}, e
	}
	var r Register
	for _, s := range h.steps {
		if s.tick() <= tick {
			r = s.register
		}
	}
	return r, api.OK
}

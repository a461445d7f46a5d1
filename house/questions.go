package house

import (
	"moveout/api"
	"moveout/common"
)

// Safe reports whether a shot is safe at a tick.
func Safe(l []api.Event, shot string, tick int) (bool, api.Errno) {
	r, _, e := Replay(l)
	if e := common.First(e, when(!r.hasShot(shot), api.ErrUnknown), checkNumber(tick)); e != api.OK {
		return false, e
	}
	return found(r.Shots, shot).isSafe(shelf{tapes: r.Tapes, tick: tick}), api.OK
}

// Unsafe returns the shots that are not safe at a tick.
func Unsafe(l []api.Event, tick int) ([]string, api.Errno) {
	r, _, e := Replay(l)
	if e := common.First(e, checkNumber(tick)); e != api.OK {
		return nil, e
	}
	return names(r.notSafe(r.Shots, tick)), api.OK
}

// about returns the register after some events, or the error of Replay, or ErrUnknown if the register does not have something with a name.
func about(l []api.Event, has lookup, name string) (Register, api.Errno) {
	r, _, e := Replay(l)
	if e := common.First(e, when(!has(r, name), api.ErrUnknown)); e != api.OK {
		return Register{}, e
	}
	return r, api.OK
}

// Left returns the tiles of a job that are left.
func Left(l []api.Event, job string) ([]int, api.Errno) {
	r, e := about(l, Register.hasJob, job)
	return found(r.Jobs, job).left(), e
}

// Needs returns the modules that a module needs.
func Needs(l []api.Event, module string) ([]string, api.Errno) {
	r, e := about(l, Register.hasModule, module)
	return names(r.needs(module)), e
}

// Sources returns the lines of a module.
func Sources(l []api.Event, module string) ([]string, api.Errno) {
	r, e := about(l, Register.hasModule, module)
	return names(r.linesOf(module)), e
}

// Provenance returns the shots of a picture.
func Provenance(l []api.Event, picture string) ([]string, api.Errno) {
	r, e := about(l, Register.hasPicture, picture)
	return names(r.shotsOf(picture)), e
}

// Story returns the story of a line.
func Story(l []api.Event, line string) ([]api.Event, api.Errno) {
	h, _, e := replayed(l)
	if e := common.First(e, when(!h.register().hasLine(line), api.ErrUnknown)); e != api.OK {
		return nil, e
	}
	var out []api.Event
	for _, s := range h.steps {
		if s.isAbout(line) {
			out = append(out, s.event(len(out)+1))
		}
	}
	return out, api.OK
}

package house

import "moveout/api"

// The kinds of events.
const (
	kindLine    = "line"
	kindTape    = "tape"
	kindShot    = "shot"
	kindCopy    = "copy"
	kindAccept  = "accept"
	kindSource  = "source"
	kindModule  = "module"
	kindMerge   = "merge"
	kindRun     = "run"
	kindTile    = "tile"
	kindFail    = "fail"
	kindPicture = "picture"
	kindRelease = "release"
	kindUndo    = "undo"
)

// lookup reports whether a register has something with a name.
type lookup func(r Register, name string) bool

// kind is what the events of a kind have, when they are refused, and what they do.
type kind struct {
	// adds looks for what the first name is given to; it is nil if the events add nothing.
	adds lookup
	// takes look for what the other names have to be.
	takes  []lookup
	values int
	// refuse returns the error of an act whose names have none, or OK.
	refuse func(r Register, a act) api.Errno
	// effect returns the register after an act, but for its tick.
	effect func(r Register, a act) Register
}

// kinds returns all kinds. An undo does nothing to a register: it leaves an earlier one.
func kinds() map[string]kind {
	lines, tapes, shots := Register.hasLine, Register.hasTape, Register.hasShot
	modules, jobs, pictures := Register.hasModule, Register.hasJob, Register.hasPicture
	return map[string]kind{
		kindLine:    {adds: lines, values: 2, refuse: Register.refuseLine, effect: Register.addLine},
		kindTape:    {adds: tapes, values: 2, refuse: Register.refuseTape, effect: Register.addTape},
		kindShot:    {adds: shots, takes: []lookup{lines, tapes}, values: 1, refuse: Register.refuseShot, effect: Register.addShot},
		kindCopy:    {takes: []lookup{tapes, tapes}, values: 1, refuse: Register.refuseCopy, effect: Register.copyTape},
		kindAccept:  {takes: []lookup{lines}, values: 1, refuse: Register.refuseAccept, effect: Register.acceptLine},
		kindSource:  {adds: modules, takes: []lookup{lines}, values: 1, refuse: Register.refuseSource, effect: Register.addSource},
		kindModule:  {adds: modules, takes: []lookup{modules}, values: 2, refuse: Register.refuseModule, effect: Register.addModule},
		kindMerge:   {adds: modules, takes: []lookup{modules, modules}, values: 1, refuse: Register.refuseMerge, effect: Register.addMerge},
		kindRun:     {adds: jobs, takes: []lookup{modules}, values: 2, refuse: Register.refuseRun, effect: Register.addJob},
		kindTile:    {takes: []lookup{jobs}, values: 3, refuse: Register.refuseTile, effect: Register.finishTile},
		kindFail:    {takes: []lookup{jobs}, values: 2, refuse: Register.refuseFail, effect: Register.loseTile},
		kindPicture: {adds: pictures, takes: []lookup{jobs}, values: 1, refuse: Register.refusePicture, effect: Register.addPicture},
		kindRelease: {takes: []lookup{pictures}, values: 1, refuse: Register.refuseRelease, effect: Register.release},
		kindUndo:    {},
	}
}

// names returns how many names the events of a kind have.
func (k kind) names() int {
	if k.adds == nil {
		return len(k.takes)
	}
	return 1 + len(k.takes)
}

// checkNames returns ErrUnknown if a register does not have what a name has to be, ErrTwice if it has what the first one is given to, or OK.
func (k kind) checkNames(r Register, names [maxParts]string) api.Errno {
	taken := names[k.names()-len(k.takes):]
	for i, has := range k.takes {
		if !has(r, taken[i]) {
			return api.ErrUnknown
		}
	}
	return when(k.adds != nil && k.adds(r, names[0]), api.ErrTwice)
}

func (r Register) hasLine(name string) bool    { return has(r.Lines, name) }
func (r Register) hasTape(name string) bool    { return has(r.Tapes, name) }
func (r Register) hasShot(name string) bool    { return has(r.Shots, name) }
func (r Register) hasModule(name string) bool  { return has(r.Modules, name) }
func (r Register) hasJob(name string) bool     { return has(r.Jobs, name) }
func (r Register) hasPicture(name string) bool { return has(r.Pictures, name) }

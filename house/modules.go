package house

import (
	"iter"
	"slices"

	"moveout/api"
	"moveout/common"
)

// What modules give.
const (
	givesShots   = "shots"
	givesSection = "section"
	givesImage   = "image"
)

// making is what a module takes, and what it gives.
type making struct {
	takes string
	gives string
}

// makings are those of the kinds of modules, from the kind 1 on.
var makings = [...]making{
	{takes: givesShots, gives: givesShots},
	{takes: givesShots, gives: givesSection},
	{takes: givesSection, gives: givesImage},
	{takes: givesImage, gives: givesImage},
}

// makingOf returns the making of a kind, and whether there is one.
func makingOf(kind int) (making, bool) {
	if kind < 1 || kind > len(makings) {
		return making{}, false
	}
	return makings[kind-1], true
}

func (r Register) refuseSource(act) api.Errno {
	return room(r.Modules, MaxModules)
}

func (r Register) addSource(a act) Register {
	r.Modules = with(r.Modules, Module{Name: a.names[0], Gives: givesShots, Line: a.names[1]})
	return r
}

func (r Register) refuseModule(a act) api.Errno {
	m, is := makingOf(a.values[1])
	return common.First(
		when(!is, api.ErrKind),
		when(found(r.Modules, a.names[1]).Gives != m.takes, api.ErrShape),
		room(r.Modules, MaxModules),
	)
}

func (r Register) addModule(a act) Register {
	m, _ := makingOf(a.values[1])
	r.Modules = with(r.Modules, Module{Name: a.names[0], Gives: m.gives, Inputs: []string{a.names[1]}})
	return r
}

func (r Register) refuseMerge(a act) api.Errno {
	return common.First(
		when(a.names[1] == a.names[2], api.ErrConflict),
		when(found(r.Modules, a.names[1]).Gives != found(r.Modules, a.names[2]).Gives, api.ErrShape),
		room(r.Modules, MaxModules),
	)
}

func (r Register) addMerge(a act) Register {
	gives := found(r.Modules, a.names[1]).Gives
	r.Modules = with(r.Modules, Module{Name: a.names[0], Gives: gives, Inputs: []string{a.names[1], a.names[2]}})
	return r
}

// needed visits the modules that a module needs, each once, from the last one of the register to the first.
func (r Register) needed(module string) iter.Seq[Module] {
	return func(yield func(Module) bool) {
		// A module's inputs come before it, so that all that need a module are visited before it.
		needed := map[string]bool{module: true}
		for _, m := range slices.Backward(r.Modules) {
			if !needed[m.Name] {
				continue
			}
			if !yield(m) {
				return
			}
			for _, input := range m.Inputs {
				needed[input] = true
			}
		}
	}
}

// needs returns the modules that a module needs, in the order of the register.
func (r Register) needs(module string) []Module {
	l := slices.Collect(r.needed(module))
	slices.Reverse(l)
	return l
}

// linesOf returns the lines of a module, in the order of the register.
func (r Register) linesOf(module string) []Line {
	var sources []string
	for m := range r.needed(module) {
		sources = append(sources, m.Line)
	}
	return filtered(r.Lines, Line.isIn, sources)
}

package house_test

import (
	"math/big"
	"slices"
	"strconv"
	"strings"

	"moveout/api"
	"moveout/house"
)

// The functions of this file follow the definitions of the chapter word by word; they look for all of it in the events that count, and keep no register.

// counting returns the events that count.
func counting(l []api.Event) []api.Event {
	var out []api.Event
	for _, x := range l {
		if x.Kind == "undo" {
			out = out[:len(out)-1]
		} else {
			out = append(out, x)
		}
	}
	return out
}

// tickOf returns the tick of the last of some events that count.
func tickOf(c []api.Event) int {
	if len(c) == 0 {
		return 0
	}
	return c[len(c)-1].Values[0]
}

// of returns the events of some kinds.
func of(c []api.Event, kinds ...string) []api.Event {
	var out []api.Event
	for _, x := range c {
		if slices.Contains(kinds, x.Kind) {
			out = append(out, x)
		}
	}
	return out
}

// adders returns the kinds of events that add what is meant by a kind.
func adders(kind string) []string {
	if kind == "module" {
		return strs("source", "module", "merge")
	}
	return strs(kind)
}

// madeBy returns the event that added something, and whether there is one.
func madeBy(c []api.Event, kind, name string) (api.Event, bool) {
	for _, x := range of(c, adders(kind)...) {
		if x.Names[0] == name {
			return x, true
		}
	}
	return api.Event{}, false
}

// must returns the event that added something that is there.
func must(c []api.Event, kind, name string) api.Event {
	x, _ := madeBy(c, kind, name)
	return x
}

// isDone reports whether there is an event of a kind with a name.
func isDone(c []api.Event, kind, name string) bool {
	for _, x := range of(c, kind) {
		if x.Names[0] == name {
			return true
		}
	}
	return false
}

func lastOf(c []api.Event, tape string) int {
	x := must(c, "tape", tape)
	return x.Values[0] + x.Values[1]
}

// shotsOf returns the shots of a line.
func shotsOf(c []api.Event, line string) []string {
	var out []string
	for _, x := range of(c, "shot") {
		if x.Names[1] == line {
			out = append(out, x.Names[0])
		}
	}
	return out
}

// tapesOf returns the tapes of a shot.
func tapesOf(c []api.Event, shot string) []string {
	var out []string
	for _, x := range of(c, "shot", "copy") {
		switch {
		case x.Kind == "shot" && x.Names[0] == shot:
			out = strs(x.Names[2])
		case x.Kind == "copy" && slices.Contains(out, x.Names[0]) && !slices.Contains(out, x.Names[1]):
			out = append(out, x.Names[1])
		}
	}
	return out
}

func isSafe(c []api.Event, shot string, tick int) bool {
	for _, tape := range tapesOf(c, shot) {
		if tick <= lastOf(c, tape) {
			return true
		}
	}
	return false
}

// unsafeOf returns those of some shots that are not safe.
func unsafeOf(c []api.Event, shots []string, tick int) []string {
	return slices.DeleteFunc(slices.Clone(shots), func(shot string) bool { return isSafe(c, shot, tick) })
}

func givesOf(c []api.Event, module string) string {
	x := must(c, "module", module)
	switch {
	case x.Kind == "source":
		return "shots"
	case x.Kind == "merge":
		return givesOf(c, x.Names[1])
	}
	return strs("shots", "section", "image", "image")[x.Values[1]-1]
}

// isNeeded reports whether a module needs another one.
func isNeeded(c []api.Event, module, other string) bool {
	if module == other {
		return true
	}
	x := must(c, "module", module)
	for _, input := range x.Names[1:] {
		if x.Kind != "source" && isNeeded(c, input, other) {
			return true
		}
	}
	return false
}

// needsOf returns the modules that a module needs.
func needsOf(c []api.Event, module string) []string {
	var out []string
	for _, x := range of(c, adders("module")...) {
		if isNeeded(c, module, x.Names[0]) {
			out = append(out, x.Names[0])
		}
	}
	return out
}

// linesOf returns the lines of a module.
func linesOf(c []api.Event, module string) []string {
	var out []string
	for _, line := range of(c, "line") {
		for _, x := range of(c, "source") {
			if x.Names[1] == line.Names[0] && isNeeded(c, module, x.Names[0]) {
				out = append(out, line.Names[0])
				break
			}
		}
	}
	return out
}

// sumsOf returns the checksums of the tiles of a job.
func sumsOf(c []api.Event, job string) []int {
	out := slices.Repeat(ints(-1), must(c, "run", job).Values[1])
	for _, x := range of(c, "tile", "fail") {
		switch {
		case x.Names[0] != job:
		case x.Kind == "tile":
			out[x.Values[1]] = x.Values[2]
		default:
			out[x.Values[1]] = -1
		}
	}
	return out
}

// leftOf returns the tiles of a job that are left.
func leftOf(c []api.Event, job string) []int {
	var out []int
	for i, sum := range sumsOf(c, job) {
		if sum < 0 {
			out = append(out, i)
		}
	}
	return out
}

func digestOf(sums []int) int {
	x := big.NewInt(1)
	for _, s := range sums {
		x.Add(x.Mul(x, big.NewInt(257)), big.NewInt(int64(s)))
	}
	return int(x.Mod(x, big.NewInt(16777213)).Int64())
}

// hasPicture reports whether there is a picture of a job.
func hasPicture(c []api.Event, job string) bool {
	for _, x := range of(c, "picture") {
		if x.Names[1] == job {
			return true
		}
	}
	return false
}

// fromOf returns the shots of a picture.
func fromOf(c []api.Event, picture string) []string {
	from := linesOf(c, must(c, "run", must(c, "picture", picture).Names[1]).Names[1])
	var out []string
	for _, x := range of(c, "shot") {
		if slices.Contains(from, x.Names[1]) {
			out = append(out, x.Names[0])
		}
	}
	return out
}

// registerOf returns the register of events that count.
func registerOf(c []api.Event) house.Register {
	r := house.Register{Tick: tickOf(c)}
	for _, x := range c {
		name := ""
		if len(x.Names) > 0 {
			name = x.Names[0]
		}
		switch x.Kind {
		case "line":
			r.Lines = append(r.Lines, house.Line{Name: name, Want: x.Values[1], Accepted: isDone(c, "accept", name)})
		case "tape":
			r.Tapes = append(r.Tapes, house.Tape{Name: name, Last: lastOf(c, name)})
		case "shot":
			r.Shots = append(r.Shots, house.Shot{Name: name, Line: x.Names[1], Tapes: tapesOf(c, name)})
		case "source":
			r.Modules = append(r.Modules, house.Module{Name: name, Gives: "shots", Line: x.Names[1]})
		case "module", "merge":
			r.Modules = append(r.Modules, house.Module{Name: name, Gives: givesOf(c, name), Inputs: x.Names[1:]})
		case "run":
			r.Jobs = append(r.Jobs, house.Job{Name: name, Module: x.Names[1], Sums: sumsOf(c, name)})
		case "picture":
			r.Pictures = append(r.Pictures, house.Picture{Name: name, Job: x.Names[1], Digest: digestOf(sumsOf(c, x.Names[1])), Released: isDone(c, "release", name)})
		}
	}
	return r
}

// upTo returns those of some events that count whose ticks are at most another one.
func upTo(c []api.Event, tick int) []api.Event {
	var out []api.Event
	for _, x := range c {
		if x.Values[0] <= tick {
			out = append(out, x)
		}
	}
	return out
}

// storyOf returns the story of a line.
func storyOf(c []api.Event, line string) []api.Event {
	var out []api.Event
	for _, x := range c {
		is := false
		switch x.Kind {
		case "line", "accept":
			is = x.Names[0] == line
		case "source", "shot":
			is = x.Names[1] == line
		case "tape", "copy":
			is = true
		}
		if is {
			x.Number = len(out) + 1
			out = append(out, x)
		}
	}
	return out
}

// rule is a condition with its error.
type rule struct {
	is bool
	e  api.Errno
}

// firstOf returns the error of the first rule that applies.
func firstOf(l ...rule) api.Errno {
	for _, x := range l {
		if x.is {
			return x.e
		}
	}
	return api.OK
}

// inputs are, for each kind, what the names of an event have to be; the first one is new where it is "new".
func inputs(kind string) []string {
	return map[string][]string{
		"line": strs("new"), "tape": strs("new"), "shot": strs("new", "line", "tape"), "copy": strs("tape", "tape"), "accept": strs("line"),
		"source": strs("new", "line"), "module": strs("new", "module"), "merge": strs("new", "module", "module"), "run": strs("new", "module"),
		"tile": strs("run"), "fail": strs("run"), "picture": strs("new", "run"), "release": strs("picture"),
	}[kind]
}

// errorOf returns the error with which an event that has none by itself is not accepted after others.
func errorOf(l []api.Event, x api.Event) api.Errno {
	c := counting(l)
	if x.Number != len(l)+1 {
		return api.ErrOrder
	}
	if x.Kind == "undo" {
		return firstOf(rule{len(c) == 0, api.ErrEmpty}, rule{len(c) > 0 && c[len(c)-1].Kind == "release", api.ErrRule})
	}
	if x.Values[0] < tickOf(c) {
		return api.ErrState
	}
	roles := inputs(x.Kind)
	for i, role := range roles {
		if role == "new" {
			continue
		}
		if _, is := madeBy(c, role, x.Names[i]); !is {
			return api.ErrUnknown
		}
	}
	if roles[0] == "new" {
		what := x.Kind
		if slices.Contains(adders("module"), what) {
			what = "module"
		}
		if _, is := madeBy(c, what, x.Names[0]); is {
			return api.ErrTwice
		}
	}
	return lawOf(c, x)
}

// lawOf returns the error of an event whose names have none.
func lawOf(c []api.Event, x api.Event) api.Errno {
	n, v := x.Names, append(slices.Clone(x.Values), 0)
	tick, count := v[0], func(kind string) int { return len(of(c, adders(kind)...)) }
	faded := func(tape string) bool { return tick > lastOf(c, tape) }
	switch x.Kind {
	case "line":
		return firstOf(rule{v[1] < 1 || v[1] > 64, api.ErrRange}, rule{count("line") == 16, api.ErrMany})
	case "tape":
		return firstOf(rule{tick+v[1] > 999999999, api.ErrLarge}, rule{count("tape") == 16, api.ErrMany})
	case "shot":
		return firstOf(rule{isDone(c, "accept", n[1]), api.ErrOver}, rule{faded(n[2]), api.ErrFaded}, rule{count("shot") == 64, api.ErrMany})
	case "copy":
		return firstOf(rule{n[0] == n[1], api.ErrConflict}, rule{faded(n[0]) || faded(n[1]), api.ErrFaded})
	case "accept":
		shots := shotsOf(c, n[0])
		return firstOf(rule{isDone(c, "accept", n[0]), api.ErrOver}, rule{len(shots) < must(c, "line", n[0]).Values[1], api.ErrShort}, rule{len(unsafeOf(c, shots, tick)) > 0, api.ErrFaded})
	case "source":
		return firstOf(rule{count("module") == 32, api.ErrMany})
	case "module":
		if v[1] < 1 || v[1] > 4 {
			return api.ErrKind
		}
		takes := strs("shots", "shots", "section", "image")[v[1]-1]
		return firstOf(rule{givesOf(c, n[1]) != takes, api.ErrShape}, rule{count("module") == 32, api.ErrMany})
	case "merge":
		return firstOf(rule{n[1] == n[2], api.ErrConflict}, rule{givesOf(c, n[1]) != givesOf(c, n[2]), api.ErrShape}, rule{count("module") == 32, api.ErrMany})
	}
	return lawOfJobs(c, x)
}

// lawOfJobs returns the error of an event of jobs or pictures whose names have none.
func lawOfJobs(c []api.Event, x api.Event) api.Errno {
	n := x.Names
	switch x.Kind {
	case "run":
		open := slices.ContainsFunc(linesOf(c, n[1]), func(line string) bool { return !isDone(c, "accept", line) })
		return firstOf(rule{open, api.ErrOpen}, rule{x.Values[1] < 1 || x.Values[1] > 32, api.ErrRange}, rule{len(of(c, "run")) == 16, api.ErrMany})
	case "tile", "fail":
		sums, tile := sumsOf(c, n[0]), x.Values[1]
		if hasPicture(c, n[0]) {
			return api.ErrOver
		}
		if tile >= len(sums) {
			return api.ErrRange
		}
		return firstOf(rule{x.Kind == "tile" && sums[tile] >= 0, api.ErrTwice}, rule{x.Kind == "fail" && sums[tile] < 0, api.ErrNone})
	case "picture":
		return firstOf(rule{hasPicture(c, n[1]), api.ErrOver}, rule{len(leftOf(c, n[1])) > 0, api.ErrOpen}, rule{len(of(c, "picture")) == 16, api.ErrMany})
	}
	return firstOf(rule{isDone(c, "release", n[0]), api.ErrOver})
}

// bodyOf returns the body of an event.
func bodyOf(x api.Event) string {
	return strconv.Itoa(x.Number) + " " + lineOf(x)
}

// checksumOf returns the checksum of a string.
func checksumOf(s string) string {
	x := big.NewInt(1)
	for i := range len(s) {
		x.Add(x.Mul(x, big.NewInt(339)), big.NewInt(int64(s[i])))
		x.Mod(x, big.NewInt(9999749))
	}
	digits := "0000000" + x.String()
	return digits[len(digits)-7:]
}

// recordOf returns the record of a body.
func recordOf(body string) string {
	return body + "#" + checksumOf(body) + "\n"
}

// answerOf returns the words of a result of the console.
func answerOf(l []string) string {
	if len(l) == 0 {
		return "none"
	}
	return strings.Join(l, " ")
}

package house

import (
	"strconv"
	"strings"

	"moveout/api"
	"moveout/common"
)

// Session is a console.
type Session struct {
	history
}

// New returns a session without events.
func New() *Session {
	return &Session{}
}

// Open returns the session with a log.
func Open(log string) (*Session, api.Errno) {
	l, _, e := Recover(log)
	// A crash tears the last record alone: the whole ones before it are kept.
	if e != api.OK && e != api.ErrTorn {
		return nil, e
	}
	h, _, e := replayed(l)
	if e != api.OK {
		return nil, e
	}
	return &Session{history: h}, api.OK
}

// question is what a question asks of a register.
type question struct {
	// names looks for what the name of a question has to be; it is nil for a question without a name.
	names  lookup
	answer func(r Register, name string) []string
}

// questions returns all questions.
func questions() map[string]question {
	return map[string]question{
		"left": {Register.hasJob, func(r Register, name string) []string {
			return common.Each(found(r.Jobs, name).left(), strconv.Itoa)
		}},
		"from":     {Register.hasPicture, func(r Register, name string) []string { return names(r.shotsOf(name)) }},
		"lines":    {Register.hasModule, func(r Register, name string) []string { return names(r.linesOf(name)) }},
		"unsafe":   {nil, func(r Register, _ string) []string { return names(r.notSafe(r.Shots, r.Tick)) }},
		"tapes":    {Register.hasShot, func(r Register, name string) []string { return found(r.Shots, name).Tapes }},
		"released": {nil, func(r Register, _ string) []string { return r.released() }},
		"want":     {Register.hasLine, Register.wanted},
	}
}

// released returns the pictures that are released, each with its digest.
func (r Register) released() []string {
	var out []string
	for _, p := range r.Pictures {
		if p.Released {
			out = append(out, p.Name, strconv.Itoa(p.Digest))
		}
	}
	return out
}

// wanted returns the number of shots of a line, the wanted one, and whether the line is accepted.
func (r Register) wanted(line string) []string {
	shots, x, state := filtered(r.Shots, Shot.isOf, []string{line}), found(r.Lines, line), "accepted"
	if x.isOpen() {
		state = "open"
	}
	return []string{strconv.Itoa(len(shots)), strconv.Itoa(x.Want), state}
}

// ask returns the answer to a question whose name is the words that are left.
func (q question) ask(r Register, words *common.Words) (string, api.Errno) {
	name := ""
	if q.names != nil {
		name = words.Next()
	}
	if !words.Done() || q.names != nil && name == "" {
		return "", api.ErrSyntax
	}
	if q.names != nil && !q.names(r, name) {
		return "", api.ErrUnknown
	}
	answer := q.answer(r, name)
	if len(answer) == 0 {
		return "none", api.OK
	}
	return strings.Join(answer, " "), api.OK
}

// record adds the event of a kind whose names and values are the words that are left.
func (s *Session) record(kind string, words *common.Words) (string, api.Errno) {
	x, is := readEvent(s.next(), kind, words)
	if e := common.First(when(!is, api.ErrSyntax), room(s.acts, api.MaxEvents)); e != api.OK {
		return "", e
	}
	if e := s.add(x); e != api.OK {
		return "", e
	}
	return "done " + strconv.Itoa(x.Number), api.OK
}

// Do executes a line, and returns its result.
func (s *Session) Do(line string) (string, api.Errno) {
	if s == nil {
		return "", api.ErrState
	}
	if e := common.First(when(len(line) > api.MaxText, api.ErrLong), when(line == "", api.ErrSyntax)); e != api.OK {
		return "", e
	}
	words := common.WordsOf(line)
	word := words.Next()
	if q, is := questions()[word]; is {
		return q.ask(s.register(), words)
	}
	if _, is := kinds()[word]; is {
		return s.record(word, words)
	}
	return "", api.ErrKind
}

// Events returns the events.
func (s *Session) Events() []api.Event {
	if s == nil {
		return nil
	}
	var out []api.Event
	for i, a := range s.acts {
		out = append(out, a.event(i+1))
	}
	return out
}

// Log returns the log of the events.
func (s *Session) Log() string {
	return strings.Join(common.Each(s.Events(), record), "")
}

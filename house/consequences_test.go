package house_test

import (
	"slices"
	"strconv"
	"strings"
	"testing"

	"moveout/api"
	"moveout/house"
)

// rounds is how many random lists of events a consequence is tried with.
const rounds = 120

// shuffled returns the numbers from 0 to n - 1 in another order.
func (r *random) shuffled(n int) []int {
	l := make([]int, n)
	for i := range l {
		j := r.below(i + 1)
		l[i], l[j] = l[j], i
	}
	return l
}

// P10.5, P11: the digest of a picture does not depend on the order in which tiles were finished, nor on those that were lost and computed again.
func TestDigestOfAnyOrder(t *testing.T) {
	r := random(5)
	for range rounds {
		sums := make([]int, 1+r.below(32))
		for i := range sums {
			sums[i] = r.below(1000000000)
		}
		want, e := house.Digest(sums)
		ok(t, "Digest", e)
		for range 3 {
			l := after(survey(10), "run j1 m3 10 "+strconv.Itoa(len(sums)))
			for _, tile := range r.shuffled(len(sums)) {
				finish := "tile j1 10 " + strconv.Itoa(tile) + " "
				for r.below(4) == 0 {
					l = after(l, finish+strconv.Itoa(r.below(1000000000))+"; fail j1 10 "+strconv.Itoa(tile))
				}
				for r.below(4) == 0 {
					l = after(l, finish+"7; undo")
				}
				l = after(l, finish+strconv.Itoa(sums[tile]))
			}
			for _, tile := range r.shuffled(len(sums))[:r.below(len(sums))] {
				l = after(l, "fail j1 10 "+strconv.Itoa(tile)+"; tile j1 10 "+strconv.Itoa(tile)+" "+strconv.Itoa(sums[tile]))
			}
			pictures := replay(t, after(l, "picture p j1 10")).Pictures
			same(t, "the picture", pictures, []house.Picture{{Name: "p", Job: "j1", Digest: want}})
		}
	}
}

// P10.5, P11: a picture leads back to its shots: each line of it is accepted, with as many shots as wanted, and all of these, and no others, are the shots of the picture.
func TestPicturesLeadBack(t *testing.T) {
	r := random(6)
	pictures, several := 0, 0
	for range 4 * rounds {
		l := r.house(120)
		register := replay(t, l)
		for _, p := range register.Pictures {
			pictures++
			shots, e := house.Provenance(l, p.Name)
			ok(t, "Provenance", e)
			module := register.Jobs[slices.IndexFunc(register.Jobs, func(j house.Job) bool { return j.Name == p.Job })].Module
			lines, e := house.Sources(l, module)
			ok(t, "Sources", e)
			if len(lines) > 1 {
				several++
			}
			has := map[string]int{}
			for _, s := range register.Shots {
				has[s.Line]++
				same(t, "a shot of a picture", slices.Contains(shots, s.Name), slices.Contains(lines, s.Line))
			}
			for _, line := range register.Lines {
				if slices.Contains(lines, line.Name) && (!line.Accepted || has[line.Name] < line.Want || has[line.Name] == 0) {
					t.Errorf("a picture has the line %v with %d shots", line, has[line.Name])
				}
			}
		}
	}
	if pictures < 100 || several < 20 {
		t.Errorf("there were %d pictures, %d of several lines", pictures, several)
	}
}

// P10.5: a copy never makes a shot less safe, and a shot on a tape that is readable is safe as long as this is readable.
func TestCopiesAreSafe(t *testing.T) {
	r := random(7)
	safer := 0
	for range rounds {
		l := r.house(80)
		before := replay(t, l)
		for _, from := range before.Tapes {
			for _, to := range before.Tapes {
				copied := after(l, "copy "+from.Name+" "+to.Name+" "+strconv.Itoa(before.Tick))
				if from == to || from.Last < before.Tick || to.Last < before.Tick {
					continue
				}
				now := replay(t, copied)
				for i, s := range now.Shots {
					last := slices.MaxFunc(now.Tapes, func(a, b house.Tape) int { return lastIf(s, a) - lastIf(s, b) }).Last
					for _, tick := range ints(0, last, last+1) {
						is, e := house.Safe(copied, s.Name, tick)
						ok(t, "Safe", e)
						same(t, "Safe", is, tick <= last)
						was, e := house.Safe(l, s.Name, tick)
						ok(t, "Safe", e)
						if was && !is {
							t.Errorf("a copy made %v less safe", before.Shots[i])
						}
						if is && !was {
							safer++
						}
					}
				}
			}
		}
	}
	if safer < 50 {
		t.Errorf("copies made shots safer %d times", safer)
	}
}

// lastIf returns the last tick of a tape if a shot is on it, or -1.
func lastIf(s house.Shot, t house.Tape) int {
	if slices.Contains(s.Tapes, t.Name) {
		return t.Last
	}
	return -1
}

// P10.5: what a module needs comes before it.
func TestNeedsComeBefore(t *testing.T) {
	r := random(8)
	for range rounds {
		l := r.house(120)
		modules := replay(t, l).Modules
		for i, m := range modules {
			needs, e := house.Needs(l, m.Name)
			ok(t, "Needs", e)
			same(t, "the last of the modules that one needs", needs[len(needs)-1], m.Name)
			for _, name := range append(slices.Clone(m.Inputs), needs[:len(needs)-1]...) {
				at := slices.IndexFunc(modules, func(x house.Module) bool { return x.Name == name })
				if at < 0 || at >= i || !slices.Contains(needs, name) {
					t.Errorf("%s needs %s", m.Name, name)
				}
			}
		}
	}
}

// P10.5: the story of a line alone is accepted, and leads to the same line, with the same shots on the same tapes.
func TestStoriesLeadToLines(t *testing.T) {
	r := random(9)
	for range rounds {
		l := r.house(120)
		whole := replay(t, l)
		for i, line := range whole.Lines {
			story, e := house.Story(l, line.Name)
			ok(t, "Story", e)
			alone := replay(t, story)
			same(t, "the lines of a story", alone.Lines, whole.Lines[i:i+1])
			same(t, "the tapes of a story", alone.Tapes, whole.Tapes)
			same(t, "the shots of a story", alone.Shots, slices.DeleteFunc(slices.Clone(whole.Shots), func(s house.Shot) bool { return s.Line != line.Name }))
			again, e := house.Story(story, line.Name)
			ok(t, "Story", e)
			same(t, "the story of a story", again, story)
		}
	}
}

// P10.5: an undo leaves the register that was before.
func TestUndoLeavesTheRegister(t *testing.T) {
	r := random(10)
	for range rounds {
		l := r.house(80)
		before := replay(t, l)
		x := r.event(l)
		if x.Kind == "undo" || x.Kind == "release" || house.Accepts(l, x) != api.OK {
			continue
		}
		undone := after(append(l, x), "undo")
		same(t, "the register after an undo", replay(t, undone), before)
		r2, e := house.AsOf(undone, 999999999)
		ok(t, "AsOf", e)
		same(t, "the last register after an undo", r2, before)
	}
}

// P10.5: a log of which a byte is changed to another one, neither of which is a line feed, is not recovered as a whole.
func TestChangedBytes(t *testing.T) {
	log := logOf(survey(9))
	for i := range log {
		if log[i] == '\n' {
			continue
		}
		whole := strings.LastIndex(log[:i], "\n") + 1
		for b := range 256 {
			if byte(b) == log[i] || b == '\n' {
				continue
			}
			l, n, e := house.Recover(log[:i] + string([]byte{byte(b)}) + log[i+1:])
			if n != whole || len(l) != strings.Count(log[:i], "\n") || e != api.ErrCheck && e != api.ErrSyntax {
				t.Fatalf("with the byte %d at %d %d bytes are recovered, with the error %d", b, i, n, e)
			}
		}
	}
}

// P10.5, P11: after a crash a session has every event of its whole records.
func TestCrashes(t *testing.T) {
	r := random(11)
	for range 12 {
		l := r.house(60)
		log := opened(t, l).Log()
		for at := range len(log) + 1 {
			s, e := house.Open(log[:at])
			ok(t, "Open", e)
			whole := strings.Count(log[:at], "\n")
			same(t, "the events after a crash", s.Events(), l[:whole])
			same(t, "the log after a crash", s.Log(), log[:strings.LastIndex(log[:at], "\n")+1])
		}
		// the session goes on, and comes to the same log
		s, e := house.Open(log[:r.below(len(log)+1)])
		ok(t, "Open", e)
		for _, x := range l[len(s.Events()):] {
			do(t, s, lineOf(x), "done "+strconv.Itoa(x.Number), api.OK)
		}
		same(t, "the log of a session that went on", s.Log(), log)
	}
}

package house

import (
	"slices"

	"moveout/api"
	"moveout/common"
)

// thing is what a register has by its name.
type thing interface{ name() string }

func (x Line) name() string    { return x.Name }
func (x Tape) name() string    { return x.Name }
func (x Shot) name() string    { return x.Name }
func (x Module) name() string  { return x.Name }
func (x Job) name() string     { return x.Name }
func (x Picture) name() string { return x.Name }

// has reports whether a thing of a list has a name.
func has[T thing](l []T, name string) bool {
	return slices.ContainsFunc(l, func(x T) bool { return x.name() == name })
}

// found returns the thing with a name, or the zero value if there is none.
func found[T thing](l []T, name string) T {
	for _, x := range l {
		if x.name() == name {
			return x
		}
	}
	var none T
	return none
}

func names[T thing](l []T) []string {
	return common.Each(l, func(x T) string { return x.name() })
}

// filtered returns the elements of which a function reports something, for a given argument.
func filtered[T, U any](l []T, is func(x T, of U) bool, of U) []T {
	var out []T
	for _, x := range l {
		if is(x, of) {
			out = append(out, x)
		}
	}
	return out
}

// with returns a new list with one more element: earlier lists must not change.
func with[T any](l []T, x T) []T {
	return append(slices.Clip(l), x)
}

// changed returns a copy of a list in which a function has changed the thing with a name.
func changed[T thing](l []T, name string, change func(x T) T) []T {
	out := slices.Clone(l)
	for i, x := range out {
		if x.name() == name {
			out[i] = change(x)
		}
	}
	return out
}

// when returns an error if a condition holds, or OK.
func when(is bool, e api.Errno) api.Errno {
	if is {
		return e
	}
	return api.OK
}

// room returns ErrMany if a list has no room for one more element, or OK.
func room[T any](l []T, most int) api.Errno {
	return when(len(l) >= most, api.ErrMany)
}

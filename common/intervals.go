package common

import "moveout/api"

// IsIn reports whether an integer is in an interval.
func IsIn(n int, x api.Interval) bool {
	return x.Low <= n && n <= x.High
}

// CheckOrder returns ErrOrder if the Low of an interval is above its High, or OK.
func CheckOrder(x api.Interval) api.Errno {
	if x.Low > x.High {
		return api.ErrOrder
	}
	return api.OK
}

// CheckInterval returns ErrRange if an end of an interval is not from low to high, then ErrOrder if its Low is above its High, or OK.
func CheckInterval(x api.Interval, low, high int) api.Errno {
	return First(CheckRange(x.Low, low, high), CheckRange(x.High, low, high), CheckOrder(x))
}

package image

import (
	"moveout/api"
	"moveout/common"
)

// maxPart is the greatest absolute integer of a part of a panel.
const maxPart = 4 * common.MaxInteger

// checkPanel returns the first error of a panel, or OK.
func checkPanel(panel [4]complex64) api.Errno {
	return common.FirstOf(panel[:], func(x complex64) api.Errno { return common.CheckElement(x, maxPart) })
}

// delayed returns a panel that is delayed by any integer.
func delayed(panel [4]complex64, by int) [4]complex64 {
	var silent [4]complex64
	// No delay changes a panel of zeros; one with a -0 is equal to it, too.
	if panel == silent {
		return silent
	}
	for k, x := range panel {
		panel[k] = common.Element(common.Rotated(common.Gauss(x), -k*by))
	}
	return panel
}

// Delay returns the delayed panel.
func Delay(panel [4]complex64, by int) ([4]complex64, api.Errno) {
	if e := common.First(checkPanel(panel), common.CheckRange(by, -api.MaxTime, api.MaxTime)); e != api.OK {
		return [4]complex64{}, e
	}
	return delayed(panel, by), api.OK
}

// checkLayers returns the first error of layers, or OK.
func checkLayers(layers []Layer) api.Errno {
	if len(layers) > MaxLayers {
		return api.ErrMany
	}
	return common.FirstOf(layers, func(x Layer) api.Errno {
		return common.First(common.CheckRange(x.Thick, 0, MaxThick), checkSlow(x.Slow))
	})
}

// Through returns the panel that went down, or up, through layers.
func Through(panel [4]complex64, layers []Layer, up bool) ([4]complex64, api.Errno) {
	if e := common.First(checkPanel(panel), checkLayers(layers)); e != api.OK {
		return [4]complex64{}, e
	}
	by := 0
	for _, x := range layers {
		by += x.Thick * x.Slow
	}
	if up {
		by = -by
	}
	return delayed(panel, by), api.OK
}

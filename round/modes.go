package round

import "numeral/api"

// between is a number that lies between two others, which are neighbours, and is neither of them.
type between struct {
	neg  bool // it is below nought
	odd  bool // of the two, the one nearer to nought has an odd last place (so the other one an even one)
	half int  // how far it is from the one nearer to nought: -1 less than half of the way, 0 just half, 1 more
}

// Each mode tells whether of the two the one farther from nought is taken.

func (b between) even() bool { return b.half > 0 || b.half == 0 && b.odd }

func (b between) away() bool { return b.half >= 0 }

func (b between) zero() bool { return false }

func (b between) up() bool { return !b.neg }

func (b between) down() bool { return b.neg }

// modes are what the modes do, by their numbers.
func modes() [api.Down + 1]func(between) bool {
	return [...]func(between) bool{
		api.Even: between.even,
		api.Away: between.away,
		api.Zero: between.zero,
		api.Up:   between.up,
		api.Down: between.down,
	}
}

// farther is what a mode that may be tells.
func (b between) farther(mode uint8) bool { return modes()[mode](b) }

var names = [...]string{
	api.Even: "even",
	api.Away: "away",
	api.Zero: "zero",
	api.Up:   "up",
	api.Down: "down",
}

// Name is a mode's name.
func Name(mode uint8) (string, api.Errno) {
	if e := checkMode(mode); e != api.OK {
		return "", e
	}
	return names[mode], api.OK
}

// Named is the mode of a name, if there is one.
func Named(s string) (uint8, bool) {
	for mode, name := range names {
		if name == s {
			return uint8(mode), true
		}
	}
	return 0, false
}

func checkMode(mode uint8) api.Errno {
	if mode > api.Down {
		return api.ErrMode
	}
	return api.OK
}

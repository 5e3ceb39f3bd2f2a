package power

import (
	"sync"
	"sync/atomic"

	"numeral/api"
)

// Keeper keeps powers of ten: made once, when the first one is asked for, whoever asks first.
type Keeper struct {
	self        *Keeper // itself, if New made it
	least, most int
	once        sync.Once
	tens        []ten        // from least to most, when they have been made
	made        atomic.Int32 // how many times
}

// New is a keeper of the powers from least to most.
func New(least, most int) (*Keeper, api.Errno) {
	if !isPower(least) || !isPower(most) {
		return nil, api.ErrPower
	}
	if least > most {
		return nil, api.ErrArg
	}
	k := &Keeper{least: least, most: most}
	k.self = k
	return k, api.OK
}

// Ten is what Ten is, out of what is kept.
func (k *Keeper) Ten(n int) (hi, lo uint64, exp int, e api.Errno) {
	if e := k.refusal(n); e != api.OK {
		return 0, 0, 0, e
	}
	k.once.Do(k.makeAll)
	t := k.tens[n-k.least]
	return t.hi, t.lo, t.exp, api.OK
}

// Made is how many times the powers have been made: 0 or 1.
func (k *Keeper) Made() int {
	if !k.isOurs() {
		return 0
	}
	return int(k.made.Load())
}

// Crowd has so many askers ask for Ten of a number at a time: what each was told (hi).
func (k *Keeper) Crowd(n, askers int) ([]uint64, api.Errno) {
	if e := k.refusal(n); e != api.OK {
		return nil, e
	}
	if askers < 1 || askers > api.MaxWorkers {
		return nil, api.ErrWorkers
	}
	told := make([]uint64, askers)
	var all sync.WaitGroup
	all.Add(askers)
	for i := range askers {
		go func() {
			defer all.Done()
			told[i], _, _, _ = k.Ten(n)
		}()
	}
	all.Wait()
	return told, api.OK
}

// isOurs: a keeper that New did not make, or a copy of one that it made, does not know itself.
func (k *Keeper) isOurs() bool { return k != nil && k.self == k }

// refusal is the error of a keeper that is none, or of a power that it does not keep.
func (k *Keeper) refusal(n int) api.Errno {
	if !k.isOurs() {
		return api.ErrNil
	}
	if n < k.least || n > k.most {
		return api.ErrPower
	}
	return api.OK
}

func (k *Keeper) makeAll() {
	tens := make([]ten, 0, k.most-k.least+1)
	for n := k.least; n <= k.most; n++ {
		tens = append(tens, tenOf(n))
	}
	k.tens = tens
	k.made.Add(1)
}

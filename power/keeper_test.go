package power

import (
	"sync"
	"testing"

	"numeral/api"
)

func TestP134KeepersThatMayNotBe(t *testing.T) {
	for _, c := range []struct {
		least, most int
		want        api.Errno
	}{
		{2, 1, api.ErrArg},
		{0, -1, api.ErrArg},
		{most, -most, api.ErrArg},
		{most, most - 1, api.ErrArg},
		{1 - most, -most, api.ErrArg},
		{-most - 1, 0, api.ErrPower},
		{0, most + 1, api.ErrPower},
		{-most - 1, most + 1, api.ErrPower},
		{-most - 1, -most - 1, api.ErrPower},
		{most + 1, most + 1, api.ErrPower},
		// Both errors: a power that is not kept comes first.
		{most + 1, most, api.ErrPower},
		{most + 1, 0, api.ErrPower},
		{0, -most - 1, api.ErrPower},
		{-most, -most - 1, api.ErrPower},
		{most + 1, -most - 1, api.ErrPower},
	} {
		if k, e := New(c.least, c.most); k != nil || e != c.want {
			t.Errorf("New(%d, %d): %v, error %d; want the error %d", c.least, c.most, k, int(e), int(c.want))
		}
	}
	for _, n := range beyond() {
		for _, other := range []int{0, most, -most, n} {
			if k, e := New(n, other); k != nil || e != api.ErrPower {
				t.Errorf("New(%d, %d): %v, error %d", n, other, k, int(e))
			}
			if k, e := New(other, n); k != nil || e != api.ErrPower {
				t.Errorf("New(%d, %d): %v, error %d", other, n, k, int(e))
			}
		}
	}
}

// What is kept is told, at both ends too, and nothing beside it; a refused call makes nothing.
func TestP134WhatIsKept(t *testing.T) {
	for _, c := range [][2]int{{0, 0}, {1, 1}, {-1, -1}, {55, 56}, {most, most}, {-most, -most}, {-3, 3}, {20, 60}, {-60, -20}, {-most, most}} {
		least, greatest := c[0], c[1]
		k := keeperOf(t, least, greatest)
		madeIs(t, k, 0)
		for _, n := range append(beyond(), least-1, greatest+1) {
			notKept(t, k, n, api.ErrPower)
			madeIs(t, k, 0)
		}
		for n := greatest; n >= least; n-- {
			keptIs(t, k, n)
			madeIs(t, k, 1)
		}
		for _, n := range append(beyond(), least-1, greatest+1) {
			notKept(t, k, n, api.ErrPower)
		}
		madeIs(t, k, 1)
	}
}

// The first call that is answered makes all the powers, wherever it lies, and no later one makes them again.
func TestP134AllAreMadeByTheFirstCall(t *testing.T) {
	for _, first := range []int{-30, 0, 30} {
		k := keeperOf(t, -30, 30)
		if k.tens != nil {
			t.Error("a keeper that was not asked keeps", len(k.tens), "powers")
		}
		keptIs(t, k, first)
		if len(k.tens) != 61 {
			t.Fatalf("behind Ten(%d) %d powers are kept", first, len(k.tens))
		}
		where := &k.tens[0]
		for n := -30; n <= 30; n++ {
			keptIs(t, k, n)
			if &k.tens[0] != where {
				t.Fatalf("Ten(%d) made the powers anew", n)
			}
		}
		madeIs(t, k, 1)
	}
}

// Two keepers beside each other know nothing of one another.
func TestP134TwoKeepers(t *testing.T) {
	one, other := keeperOf(t, -5, 5), keeperOf(t, 0, 9)
	keptIs(t, one, -5)
	madeIs(t, one, 1)
	madeIs(t, other, 0)
	notKept(t, other, -5, api.ErrPower)
	notKept(t, one, 9, api.ErrPower)
	madeIs(t, other, 0)
	crowdIs(t, other, 9, 2)
	madeIs(t, other, 1)
	madeIs(t, one, 1)
	for n := 0; n <= 5; n++ {
		keptIs(t, one, n)
		keptIs(t, other, n)
	}
}

// A keeper that is none: nil, one that New did not make, one that is a copy of what New made.
func TestP134P135KeepersThatAreNone(t *testing.T) {
	ours := keeperOf(t, -5, 5)
	keptIs(t, ours, 1)
	copied := &Keeper{self: ours.self, least: ours.least, most: ours.most, tens: ours.tens}
	copied.made.Store(1)
	for name, k := range map[string]*Keeper{"nil": nil, "new": new(Keeper), "filled": {least: -5, most: 5}, "copied": copied} {
		t.Run(name, func(t *testing.T) {
			for _, n := range append(beyond(), 0, 1, -5, 5, 6) {
				notKept(t, k, n, api.ErrNil)
				for _, askers := range []int{-1, 0, 1, 2, api.MaxWorkers, api.MaxWorkers + 1} {
					noCrowd(t, k, n, askers, api.ErrNil)
				}
			}
			madeIs(t, k, 0)
		})
	}
	madeIs(t, ours, 1)
}

// Many ask at a time, each for another power, while others ask how often the powers have been made: once, in the end, and never more.
func TestP134P136ManyAskAtATime(t *testing.T) {
	for range 20 {
		k := keeperOf(t, -40, 40)
		start := make(chan struct{})
		var all sync.WaitGroup
		for n := -40; n <= 40; n++ {
			all.Go(func() {
				<-start
				keptIs(t, k, n)
				madeIs(t, k, 1)
			})
			all.Go(func() {
				<-start
				if made := k.Made(); made != 0 && made != 1 {
					t.Error("the powers have been made", made, "times")
				}
				notKept(t, k, 41, api.ErrPower)
			})
		}
		close(start)
		all.Wait()
		madeIs(t, k, 1)
	}
}

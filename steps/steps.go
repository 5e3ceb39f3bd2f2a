// Package steps takes the answers of calls that come one behind another and keeps the first error of them, so that it is asked for once, at the end. It is no layer: all layers may use it.
package steps

import "numeral/api"

// Run is some calls, one behind another. What comes behind an error means nothing.
type Run struct {
	Err api.Errno // the first error that came
}

// Keep keeps an error, unless one came ahead of it.
func (r *Run) Keep(e api.Errno) {
	if r.Err == api.OK {
		r.Err = e
	}
}

// Nat takes a whole number.
func (r *Run) Nat(n api.Nat, e api.Errno) api.Nat {
	r.Keep(e)
	return n
}

// Nats takes two whole numbers.
func (r *Run) Nats(a, b api.Nat, e api.Errno) (api.Nat, api.Nat) {
	r.Keep(e)
	return a, b
}

// Less takes a difference, where it is known that there is one.
func (r *Run) Less(n api.Nat, _ bool, e api.Errno) api.Nat {
	r.Keep(e)
	return n
}

// Int takes a count or an order.
func (r *Run) Int(n int, e api.Errno) int {
	r.Keep(e)
	return n
}

// Ratio takes a fraction.
func (r *Run) Ratio(x api.Ratio, e api.Errno) api.Ratio {
	r.Keep(e)
	return x
}

// Dyadic takes a whole number times a power of two.
func (r *Run) Dyadic(d api.Dyadic, e api.Errno) api.Dyadic {
	r.Keep(e)
	return d
}

// Dec takes a decimal.
func (r *Run) Dec(d api.Dec, e api.Errno) api.Dec {
	r.Keep(e)
	return d
}

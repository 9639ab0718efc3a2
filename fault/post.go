package fault

import (
	"slices"

	"versine/api"
	"versine/base"
)

// CheckPost returns the first error of a post, or OK.
func CheckPost(p Post) api.Errno {
	e := base.FirstError(
		base.CheckBetween(p.Heard, 0, MaxMessages),
		base.ErrorIf(len(p.Force) > MaxMessages, api.ErrMany),
	)
	if e != api.OK {
		return e
	}
	f := forceOf(nil)
	return base.CheckEach(p.Force, func(r Restriction) api.Errno {
		return base.FirstError(checkRestriction(r), f.next(Message{Restriction: r}))
	})
}

// onWay is a message on its way to a post.
type onWay struct {
	Message
	isLost bool
}

// after returns a post after a message was on its way to it, in memory of its own.
func (p Post) after(x onWay) Post {
	f, heard := forceOf(p.Force), p.Heard
	if !x.isLost && x.Number == heard+1 && f.next(x.Message) == api.OK {
		heard = x.Number
	}
	return Post{heard, f.list}
}

// Arrived returns a post after a message has arrived, and its answer.
func Arrived(p Post, m Message) (Post, int, api.Errno) {
	if e := base.FirstError(CheckPost(p), checkMessage(m)); e != api.OK {
		return Post{}, 0, e
	}
	p = p.after(onWay{Message: m})
	return p, p.Heard, api.OK
}

// checkRounds returns the first error of rounds, or OK.
func checkRounds(l []Round) api.Errno {
	if len(l) > MaxRounds {
		return api.ErrMany
	}
	return base.CheckEach(l, func(r Round) api.Errno { return base.CheckEach(r.Lost, checkNumber) })
}

// contradicts reports whether a post cannot have heard what an office has sent.
func (p Post) contradicts(o Office) bool {
	if p.Heard > len(o.Messages) || p.Heard < o.Acked {
		return true
	}
	return !slices.Equal(p.Force, o.force(p.Heard).list)
}

// sent returns the messages that an office sends in a round.
func (r Round) sent(o Office) []onWay {
	return base.Mapped(o.Messages[o.Acked:], func(m Message) onWay {
		return onWay{m, slices.Contains(r.Lost, m.Number)}
	})
}

// Exchanged returns office and post after rounds.
func Exchanged(o Office, p Post, l []Round) (Office, Post, api.Errno) {
	if e := base.FirstError(CheckOffice(o), CheckPost(p), checkRounds(l)); e != api.OK {
		return Office{}, Post{}, e
	}
	if p.contradicts(o) {
		return Office{}, Post{}, api.ErrConflict
	}
	o, p = o.copied(), Post{p.Heard, slices.Clone(p.Force)}
	for _, r := range l {
		for _, x := range r.sent(o) {
			p = p.after(x)
		}
		if !r.Deaf {
			o = o.answered(p.Heard)
		}
	}
	return o, p, api.OK
}

// Allowed returns the allowed speed at a place.
func Allowed(p Post, place int) (int, api.Errno) {
	if e := base.FirstError(CheckPost(p), checkPlace(place)); e != api.OK {
		return 0, e
	}
	allowed := MaxSpeed
	for _, r := range p.Force {
		if r.Span.From <= place && place < r.Span.To {
			allowed = min(allowed, r.Speed)
		}
	}
	return allowed, api.OK
}

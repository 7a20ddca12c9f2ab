package lines

import "deuce/api"

func within(n, low, high int) bool { return low <= n && n <= high }

// spanWithin reports whether a span is not empty and lies within bounds.
func spanWithin(s api.Span, low, high int) bool {
	return low <= s.Low && s.Low <= s.High && s.High <= high
}

func validStrip(s api.Strip) bool {
	return within(s.P, -api.MaxSlope, api.MaxSlope) && within(s.Q, -api.MaxSlope, api.MaxSlope) &&
		(s.P != 0 || s.Q != 0) &&
		spanWithin(api.Span{Low: s.Low, High: s.High}, -api.MaxReach, api.MaxReach)
}

func validBox(b api.Box) bool {
	return spanWithin(api.Span{Low: b.Left, High: b.Right}, 0, api.MaxField) &&
		spanWithin(api.Span{Low: b.Bottom, High: b.Top}, 0, api.MaxField)
}

// markWithin reports whether a mark has its centre from 0 to size, and its half axes in these spans.
func markWithin(m api.Mark, size int, halfX, halfY api.Span) bool {
	return within(m.X, 0, size) && within(m.Y, 0, size) &&
		within(m.HalfX, halfX.Low, halfX.High) && within(m.HalfY, halfY.Low, halfY.High)
}

// check returns ErrView unless the view is valid, then ErrBox unless the box is.
func check(v api.View, b api.Box) api.Errno {
	if e := Check(v); e != api.OK {
		return e
	}
	if !validBox(b) {
		return api.ErrBox
	}
	return api.OK
}

// sure reports whether a call is that of a ball that is surely in, or surely out.
func sure(call int) bool { return call == api.In || call == api.Out }

package wire

import "mediawire/api"

func offset(f *api.Frame) *uint64   { return &f.Offset }
func reliable(f *api.Frame) *uint64 { return &f.Reliable }
func limit(f *api.Frame) *uint64    { return &f.Limit }
func id(f *api.Frame) *uint64       { return &f.Id }
func deadline(f *api.Frame) *uint64 { return &f.Deadline }

// first is a first byte that tells the kind alone. (By it the layout was chosen: it is only passed when read.)
func first(x byte) layout {
	return layout{
		write: func(b []byte, f *api.Frame) []byte { return append(b, x) },
		read:  func(r *reader, f *api.Frame) { r.byte() },
	}
}

// firstOfData is a first byte that tells Fin too.
func firstOfData() layout {
	return layout{
		write: func(b []byte, f *api.Frame) []byte {
			if f.Fin {
				return append(b, dataFinByte)
			}
			return append(b, dataByte)
		},
		read: func(r *reader, f *api.Frame) { f.Fin = r.byte() == dataFinByte },
	}
}

func number(place func(f *api.Frame) *uint64) layout {
	return layout{
		write: func(b []byte, f *api.Frame) []byte { return appendNumber(b, *place(f)) },
		read:  func(r *reader, f *api.Frame) { *place(f) = r.number() },
	}
}

func stream() layout {
	return layout{
		write: func(b []byte, f *api.Frame) []byte { return appendNumber(b, uint64(f.Stream)) },
		read: func(r *reader, f *api.Frame) {
			n := r.number()
			if n >= api.MaxStreams { // asked ahead of the conversion: an int may be too short for n
				r.fail()
			}
			f.Stream = int(n)
		},
	}
}

func text() layout {
	return layout{
		write: func(b []byte, f *api.Frame) []byte {
			b = appendNumber(b, uint64(len(f.Data)))
			return append(b, f.Data...)
		},
		read: func(r *reader, f *api.Frame) { f.Data = string(r.take(r.number())) },
	}
}

// ranges are those of an Ack, which hang on one another: each is told by its distance from the one ahead.
func ranges() layout {
	return layout{write: appendRanges, read: readRanges}
}

// leastGap: from the Lo of a range to the Hi of the one behind it, where one number lies between.
const leastGap = 2

func appendRanges(b []byte, f *api.Frame) []byte {
	head := f.Ranges[0]
	behind := f.Ranges[1:]
	b = appendNumber(b, head.Hi)
	b = appendNumber(b, uint64(len(behind)))
	b = appendNumber(b, head.Hi-head.Lo)
	lo := head.Lo
	for _, x := range behind {
		b = appendNumber(b, lo-x.Hi-leastGap)
		b = appendNumber(b, x.Hi-x.Lo)
		lo = x.Lo
	}
	return b
}

func readRanges(r *reader, f *api.Frame) {
	hi := r.number()
	behind := r.number()
	lo := r.less(hi, r.number())
	f.Ranges = append(f.Ranges, api.Range{Lo: lo, Hi: hi})
	// behind may be any number, but each turn reads bytes or fails.
	for ; behind > 0; behind-- {
		hi = r.less(lo, r.number()+leastGap)
		lo = r.less(hi, r.number())
		f.Ranges = append(f.Ranges, api.Range{Lo: lo, Hi: hi})
	}
}

package wire

import "mediawire/api"

// soundPacket: P4 has nothing against it.
func soundPacket(p api.Packet) bool {
	for i := range p.Frames {
		if !soundFrame(&p.Frames[i]) {
			return false
		}
	}
	return p.Number <= api.MaxValue && len(p.Frames) > 0
}

// soundFrame asks of every frame what P4 asks whatever its kind, even of fields that aren't written.
func soundFrame(f *api.Frame) bool {
	return isKind(f.Kind) && soundNumbers(f) && isStream(f.Stream) && soundTogether(f)
}

func isKind(kind int) bool { return api.Ping <= kind && kind <= api.Close }

func isStream(k int) bool { return 0 <= k && k < api.MaxStreams }

func soundNumbers(f *api.Frame) bool {
	return max(f.Offset, f.Reliable, f.Limit, f.Id, f.Deadline) <= api.MaxValue
}

// soundTogether asks what a kind wants of its fields beside one another. (The numbers are sound: no difference here falls below 0.)
func soundTogether(f *api.Frame) bool {
	switch f.Kind {
	case api.Ack:
		return soundRanges(f.Ranges)
	case api.ResetAt:
		return f.Reliable <= f.Offset
	case api.Data:
		return uint64(len(f.Data)) <= api.MaxValue-f.Offset
	}
	return true
}

func soundRanges(l []api.Range) bool {
	for i, r := range l {
		if r.Lo > r.Hi || r.Hi > api.MaxValue {
			return false
		}
		if i > 0 && r.Hi+1 >= l[i-1].Lo {
			return false
		}
	}
	return len(l) > 0
}

package side

import (
	"container/heap"

	"mediawire/api"
	"mediawire/wire"
)

// source is where frames of a packet come from.
type source struct {
	urgency int
	waits   func() bool                      // it has a frame to send now
	next    func(room int) (api.Frame, bool) // that frame; false, if it has no room
	yields  bool                             // where it has no room in a packet, what is less urgent may go ahead in that
}

// The urgency of each kind of source, in the order of P10; those of streams have one for each stream.
const (
	ofAcks = iota * api.MaxStreams
	ofMaxData
	ofMaxStream
	ofResetAt
	ofDatagrams
	ofData
)

// sources is a heap: the most urgent one first.
type sources []source

func (q sources) Len() int           { return len(q) }
func (q sources) Less(i, j int) bool { return q[i].urgency < q[j].urgency }
func (q sources) Swap(i, j int)      { q[i], q[j] = q[j], q[i] }

// Push is the heap's.
func (q *sources) Push(x any) { *q = append(*q, x.(source)) }

// Pop is the heap's.
func (q *sources) Pop() any {
	last := len(*q) - 1
	x := (*q)[last]
	*q = (*q)[:last]
	return x
}

func (q *sources) add(x source) { heap.Push(q, x) }

// fill: the frames of a packet that has so much room: none, if no source has any more. What does not yield is never passed over: so no bytes go ahead of a datagram, and no stream ahead of one with a smaller number.
func (q *sources) fill(room int) []api.Frame {
	var l []api.Frame
	var later sources
	for q.Len() > 0 {
		most := (*q)[0]
		if !most.waits() {
			heap.Pop(q)
			continue
		}
		f, ok := most.next(room)
		if ok {
			l = append(l, f)
			room -= wire.Size(f)
			continue
		}
		if !most.yields {
			break
		}
		heap.Pop(q)
		later = append(later, most)
	}
	for _, x := range later {
		q.add(x)
	}
	return l
}

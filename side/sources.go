package side

import (
	"container/heap"

	"mediawire/api"
	"mediawire/wire"
)

// source is where frames of a packet come from.
type source struct {
	urgency int
	waits   func() bool                      // it has a frame to send now
	next    func(room int) (api.Frame, bool) // that frame; false, if it has no room
}

// The urgency of each kind of source, in the order of P10; those of streams have one for each stream.
const (
	ofAcks = iota * api.MaxStreams
	ofMaxData
	ofMaxStream
	ofData
)

// sources is a heap: the most urgent one first.
type sources []source

func (q sources) Len() int           { return len(q) }
func (q sources) Less(i, j int) bool { return q[i].urgency < q[j].urgency }
func (q sources) Swap(i, j int)      { q[i], q[j] = q[j], q[i] }

// Push is the heap's.
func (q *sources) Push(x any) { *q = append(*q, x.(source)) }

// Pop is the heap's.
func (q *sources) Pop() any {
	last := len(*q) - 1
	x := (*q)[last]
	*q = (*q)[:last]
	return x
}

func (q *sources) add(x source) { heap.Push(q, x) }

// fill: the frames of a packet that has so much room: none, if no source has any more. What is more urgent is never passed over for what still has room: so the frames stay in order.
func (q *sources) fill(room int) []api.Frame {
	var l []api.Frame
	for q.Len() > 0 {
		most := (*q)[0]
		if !most.waits() {
			heap.Pop(q)
			continue
		}
		f, ok := most.next(room)
		if !ok {
			break
		}
		l = append(l, f)
		room -= wire.Size(f)
	}
	return l
}

package datagram

import "mediawire/api"

// Inbox is the datagrams that came to a side, up to the call that hands them on (P19).
type Inbox struct {
	messages []api.Message
	greatest uint64              // of all ids that were taken
	taken    map[uint64]struct{} // the ids that were taken and are not far below the greatest
}

// NewInbox: one to which nothing came.
func NewInbox() Inbox { return Inbox{taken: map[uint64]struct{}{}} }

// Take: a Datagram frame came at that tick. It is handed on, unless it is late, or came already, or nobody remembers whether it did.
func (in *Inbox) Take(f api.Frame, tick uint64) {
	_, twice := in.taken[f.Id]
	if f.Deadline < tick || twice || in.isFar(f.Id) {
		return
	}
	in.messages = append(in.messages, api.Message{Id: f.Id, Data: f.Data})
	in.remember(f.Id)
}

// isFar: the id is so far below the greatest one that it is not remembered.
func (in *Inbox) isFar(id uint64) bool { return id+api.Seen <= in.greatest }

func (in *Inbox) remember(id uint64) {
	in.taken[id] = struct{}{}
	in.greatest = max(in.greatest, id)
	for x := range in.taken {
		if in.isFar(x) {
			delete(in.taken, x)
		}
	}
}

// Empty: the datagrams that came since the last call, in their order. They become the caller's.
func (in *Inbox) Empty() []api.Message {
	n := len(in.messages)
	l := in.messages[:n:n]
	in.messages = nil
	return l
}

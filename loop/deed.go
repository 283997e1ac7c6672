package loop

import (
	"glasshouse/api"
	"glasshouse/frame"
	"glasshouse/ground"
	"glasshouse/guard"
	"glasshouse/nav"
	"glasshouse/port"
	"glasshouse/realm"
	"glasshouse/store"
)

// deed does an act of frame self to a right world, and answers what it tells. On an error, it leaves the world as it was.
type deed func(w *api.World, self int, x api.Act) (int, api.Errno)

// deedOf answers what acts of a kind do.
func deedOf(kind int) deed {
	switch kind {
	case api.Ask:
		return ifMay(api.Length, frameN, tellLength)
	case api.Tell:
		return ifMay(api.Send, frameA, tell)
	case api.Reach:
		return ifMay(api.Touch, frameA, reach)
	case api.Leave:
		return ifMay(api.Close, frameN, leave)
	case api.Go:
		return ifMay(api.Move, frameN, move)
	case api.Open:
		return open
	case api.Pass:
		return ifMay(api.Send, frameA, changePort(pass))
	case api.Push:
		return changePort(push)
	case api.Pull:
		return changePort(pull)
	case api.Shut:
		return changePort(shut)
	}
	return doInRealm
}

// frameA is the frame that an act is about, by its A.
func frameA(x api.Act) int { return x.A }

// frameN is the frame that an act is about, by its N.
func frameN(x api.Act) int { return x.N }

// ifMay answers a deed that is done only if the frame may ask this of the one that the act is about. So that one is there.
func ifMay(what int, of func(x api.Act) int, do deed) deed {
	return func(w *api.World, self int, x api.Act) (int, api.Errno) {
		if e := guard.May(w.Frames, self, of(x), what); e != api.OK {
			return 0, e
		}
		return do(w, self, x)
	}
}

// doInRealm does an act that has to do with the frame's own realm alone.
func doInRealm(w *api.World, self int, x api.Act) (int, api.Errno) {
	done, told, e := realm.Do(w.Realms[self], x)
	if e != api.OK {
		return 0, e
	}
	w.Realms[self] = done
	return told, api.OK
}

// tellLength tells how many frames are in frame N.
func tellLength(w *api.World, _ int, x api.Act) (int, api.Errno) {
	return frame.Length(w.Frames, x.N)
}

// tell sends the marks of the first N hands to frame A.
func tell(w *api.World, self int, x api.Act) (int, api.Errno) {
	g, e := marks(w.Realms[self], x.N)
	if e != api.OK {
		return 0, e
	}
	if len(w.Queues[x.A]) == api.MaxQueue {
		return 0, api.ErrMany
	}
	w.Queues[x.A] = append(w.Queues[x.A], api.Mail{From: self, G: g})
	return 0, api.OK
}

// marks answers a graph of how many hands there are to it, and of the Mark of each one's node.
func marks(r api.Realm, hands int) (api.Graph, api.Errno) {
	if !ground.Within(hands, 0, api.MaxKids) {
		return api.Graph{}, api.ErrRange
	}
	cells := make([]api.Cell, 1+hands)
	cells[0] = api.Cell{N: hands, Kids: make([]int, hands)}
	for k := range hands {
		node, e := store.Find(r.S, r.Hands[k])
		if e != api.OK {
			return api.Graph{}, e
		}
		cells[0].Kids[k] = k + 1
		cells[k+1] = api.Cell{N: node.Mark}
	}
	return api.Graph{Cells: cells}, api.OK
}

// reach tells the Mark of the node of hand B of frame A.
func reach(w *api.World, _ int, x api.Act) (int, api.Errno) {
	other := w.Realms[x.A]
	if !ground.Within(x.B, 0, len(other.Hands)-1) {
		return 0, api.ErrWho
	}
	node, e := store.Find(other.S, other.Hands[x.B])
	return node.Mark, e
}

// leave lets frame N, and all in it, be gone. What they have stays with them, where nobody comes to it any more.
func leave(w *api.World, _ int, x api.Act) (int, api.Errno) {
	left, e := frame.Discard(w.Frames, x.N)
	if e != api.OK {
		return 0, e
	}
	w.Frames = left
	return 0, api.OK
}

// move lets frame N go to the origin A. Nothing that it had comes along: it was another origin's.
func move(w *api.World, _ int, x api.Act) (int, api.Errno) {
	moved, e := nav.Go(w.Frames, x.N, x.A)
	if e != api.OK {
		return 0, e
	}
	blank, e := realm.New(len(w.Realms[x.N].S.Nodes))
	if e != api.OK {
		return 0, e
	}
	w.Frames, w.Realms[x.N] = moved, blank
	w.Programs[x.N], w.Queues[x.N] = nil, nil
	return 0, api.OK
}

// open tells the number of a new port.
func open(w *api.World, self int, _ api.Act) (int, api.Errno) {
	opened, first, e := port.Open(w.Ports, len(w.Frames), self, w.Frames[self].Turn)
	if e != api.OK {
		return 0, e
	}
	w.Ports = opened
	return first, api.OK
}

// changePort answers the deed that makes other ports by what frame self does with port N at its Turn.
func changePort(by func(w *api.World, self, turn int, x api.Act) ([]api.Port, api.Errno)) deed {
	return func(w *api.World, self int, x api.Act) (int, api.Errno) {
		changed, e := by(w, self, w.Frames[self].Turn, x)
		if e != api.OK {
			return 0, e
		}
		w.Ports = changed
		return 0, api.OK
	}
}

// pass lets port N be frame A's, until that goes elsewhere.
func pass(w *api.World, self, turn int, x api.Act) ([]api.Port, api.Errno) {
	return port.Pass(w.Ports, len(w.Frames), x.N, self, turn, x.A, w.Frames[x.A].Turn)
}

// push sends the marks of the first A hands through port N.
func push(w *api.World, self, turn int, x api.Act) ([]api.Port, api.Errno) {
	if w.Frames[self].May&api.Post == 0 {
		return nil, api.ErrSecret
	}
	g, e := marks(w.Realms[self], x.A)
	if e != api.OK {
		return nil, e
	}
	return port.Push(w.Ports, len(w.Frames), x.N, self, turn, g)
}

// pull lets the message be what came first to port N.
func pull(w *api.World, self, turn int, x api.Act) ([]api.Port, api.Errno) {
	pulled, came, e := port.Pull(w.Ports, len(w.Frames), x.N, self, turn)
	if e != api.OK {
		return nil, e
	}
	w.Realms[self].In = came
	return pulled, api.OK
}

// shut lets nothing go through port N any more.
func shut(w *api.World, self, turn int, x api.Act) ([]api.Port, api.Errno) {
	return port.Shut(w.Ports, len(w.Frames), x.N, self, turn)
}

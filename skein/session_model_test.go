package skein_test

import (
	"bytes"
	"math/rand/v2"
	"slices"
	"testing"

	"skein/api"
	"skein/skein"
)

// talker: a replica with a session, as the document tells it, word by word, by other code than the program's.
type talker struct {
	*model
	session   uint32
	has, done bool
	work      []span
}

func (m *talker) start(session uint32) api.Errno {
	if session < 1 || session > 1<<30-1 {
		return api.ErrSession
	}
	m.session, m.has, m.done, m.work = session, true, false, []span{everything()}
	return api.OK
}

func (m *talker) in(s span) []api.Op { return within(m.ops(), s[0], s[1]) }

func (m *talker) tick() []api.Frame {
	if !m.has || m.done {
		return nil
	}
	var sent []api.Frame
	var asked, rest []span
	for i, s := range m.work {
		if i >= 5 {
			rest = append(rest, s)
			continue
		}
		asked = append(asked, s)
		sent = append(sent, ask(m.session, s, plainDigest(m.in(s))))
	}
	m.work = append(rest, asked...)
	return sent
}

func (m *talker) answer(f api.Frame) api.Frame {
	s := span{f.Lo, f.Hi}
	in := m.in(s)
	if plainDigest(in) == f.Digest {
		return same(f.Session, s)
	}
	if len(in) <= 4 {
		return have(f.Session, s, in...)
	}
	return split(f.Session, s, in[middleOf(in)])
}

func (m *talker) addAll(ops []api.Op) {
	for _, o := range ops {
		m.add(o)
	}
}

func (m *talker) heard(f api.Frame) ([]api.Frame, api.Errno) {
	if f.Kind == api.Ask {
		return []api.Frame{m.answer(f)}, api.OK
	}
	if f.Kind == api.Give {
		m.addAll(f.Ops)
		return nil, api.OK
	}
	if !m.has || m.done || m.session != f.Session {
		return nil, api.ErrSession
	}
	s := span{f.Lo, f.Hi}
	if !slices.Contains(m.work, s) {
		return nil, api.OK
	}
	m.addAll(f.Ops)
	var work []span
	for _, w := range m.work {
		if w != s || f.Kind == api.Have {
			work = append(work, w)
		} else if f.Kind == api.Split {
			k := keyOf(f.Ops[0])
			for _, part := range []span{{s[0], k}, {k, k + 1}, {k + 1, s[1]}} {
				if part[0] < part[1] {
					work = append(work, part)
				}
			}
		}
	}
	m.work = work
	m.done = f.Kind == api.Same && s == everything()
	if len(work) == 0 && !m.done {
		m.work = []span{everything()}
	}
	if f.Kind != api.Have {
		return nil, api.OK
	}
	return m.gives(s, f.Ops), api.OK
}

func (m *talker) gives(s span, told []api.Op) []api.Frame {
	var lacking []api.Op
	for _, o := range m.in(s) {
		known := false
		for _, x := range told {
			known = known || keyOf(x) == keyOf(o)
		}
		if !known {
			lacking = append(lacking, o)
		}
	}
	var sent []api.Frame
	for len(lacking) > 6 {
		sent = append(sent, give(m.session, lacking[:6]...))
		lacking = lacking[6:]
	}
	if len(lacking) > 0 {
		sent = append(sent, give(m.session, lacking...))
	}
	return sent
}

// drawnSpan: mostly a range of the work, else any one.
func (m *talker) drawnSpan(r *rand.Rand) span {
	if len(m.work) > 0 && r.IntN(8) > 0 {
		return m.work[r.IntN(len(m.work))]
	}
	for {
		ends := bounds(m.ops())
		s := span{ends[r.IntN(len(ends))], ends[r.IntN(len(ends))]}
		if s[0] < s[1] && s[1] <= top {
			return s
		}
	}
}

// drawnOps: up to so many operations that a frame of this range may have.
func (m *talker) drawnOps(r *rand.Rand, s span, most int, clients uint32) []api.Op {
	var ops []api.Op
	for range 3 * most {
		o := m.drawn(r, clients)
		if there := m.ops(); len(there) > 0 && r.IntN(4) == 0 {
			o = there[r.IntN(len(there))]
		}
		if isRight(o) && len(within([]api.Op{o}, s[0], s[1])) == 1 && len(ops) < most {
			ops = append(ops, o)
		}
	}
	slices.SortFunc(ops, func(a, b api.Op) int { return int(keyOf(a)) - int(keyOf(b)) })
	return slices.CompactFunc(ops, func(a, b api.Op) bool { return keyOf(a) == keyOf(b) })
}

// drawnFrame: a right frame, mostly one that could come now.
func (m *talker) drawnFrame(r *rand.Rand, clients uint32) api.Frame {
	session := m.session
	if session == 0 || r.IntN(12) == 0 {
		session = 1 + r.Uint32N(3)
	}
	s := m.drawnSpan(r)
	switch r.IntN(6) {
	case 0:
		d := plainDigest(m.in(s))
		d[r.IntN(3)] ^= byte(r.IntN(2))
		return ask(session, s, d)
	case 1:
		return same(session, s)
	case 2:
		if ops := m.drawnOps(r, everything(), r.IntN(7), clients); len(ops) > 0 {
			return give(session, ops...)
		}
	case 3:
		return have(session, s, m.drawnOps(r, s, r.IntN(5), clients)...)
	default:
		if ops := m.drawnOps(r, s, 1, clients); len(ops) > 0 {
			return split(session, s, ops[0])
		}
	}
	return same(session, s)
}

// step does one thing to both, and holds the answers against each other.
func step(t *testing.T, r *rand.Rand, x *skein.Replica, m *talker, clients uint32, met map[string]int) {
	t.Helper()
	switch r.IntN(16) {
	case 0:
		session := []uint32{0, 1, 2, 3, 1<<30 - 1, 1 << 30}[r.IntN(6)]
		if r.IntN(3) > 0 {
			return // most sessions are to grow
		}
		if e, want := x.Start(session), m.start(session); e != want {
			t.Fatalf("Start(%d) = %d, want %d", session, e, want)
		}
	case 1, 2:
		want := m.tick()
		if sent := x.Tick(); !areSame(sent, bytesOf(want...)) {
			t.Fatalf("Tick = %x, want %x", sent, bytesOf(want...))
		}
		if len(want) == 5 && len(m.work) > 5 {
			met["a turn"]++
		}
	case 3:
		x.Insert(0, 'x')
		m.insert(0, 'x')
	case 4:
		b := checked(raw(m.drawnFrame(r, clients)))
		b[r.IntN(len(b))] ^= 1 << r.IntN(8)
		if sent, e := x.Heard(b); len(sent) != 0 || e != api.ErrFrame {
			t.Fatalf("Heard(%x) = %x, %d", b, sent, e)
		}
	default:
		f := m.drawnFrame(r, clients)
		done := m.done
		want, e := m.heard(f)
		sent, got := x.Heard(checked(raw(f)))
		if got != e || !areSame(sent, bytesOf(want...)) {
			t.Fatalf("Heard(%+v) = %x, %d, want %x, %d", f, sent, got, bytesOf(want...), e)
		}
		note(met, f, want, e)
		if m.done && !done {
			met["done"]++
		}
	}
}

// note counts what was tried, so that a test can tell when it is too little.
func note(met map[string]int, f api.Frame, sent []api.Frame, e api.Errno) {
	if e != api.OK {
		met["refused"]++
		return
	}
	met["taken of kind "+string(rune('0'+f.Kind))]++
	for _, s := range sent {
		met["sent of kind "+string(rune('0'+s.Kind))]++
	}
	if len(sent) > 1 {
		met["several sent"]++
	}
}

// TestSessionAsTheModel: P10, P11, and P1's word that with an error nothing changes: whatever is heard, in any order, does and sends what the document says.
func TestSessionAsTheModel(t *testing.T) {
	met := map[string]int{}
	for seed := range uint64(80) {
		r := rand.New(rand.NewPCG(seed, 11))
		clients := 2 + r.Uint32N(6)
		client := 1 + r.Uint32N(clients)
		x, m := newReplica(t, client), &talker{model: newModel(client)}
		for range 300 {
			step(t, r, x, m, clients, met)
			isLike(t, x, m.model)
			if x.Done() != (m.has && m.done) {
				t.Fatalf("Done = %v", x.Done())
			}
		}
	}
	for _, what := range []string{
		"a turn", "done", "refused", "several sent",
		"taken of kind 1", "taken of kind 2", "taken of kind 3", "taken of kind 4", "taken of kind 5",
		"sent of kind 2", "sent of kind 3", "sent of kind 4", "sent of kind 5",
	} {
		if met[what] < 20 {
			t.Errorf("%s: met %d times: too little was tried", what, met[what])
		}
	}
}

// TestHeardAnyBytes: P1: whatever comes, each call ends, and nothing that is no frame changes anything.
func TestHeardAnyBytes(t *testing.T) {
	r := rand.New(rand.NewPCG(1, 12))
	x := filled(t, 7, 20)
	begins(t, x, 3)
	was := x.Ops()
	for range 20000 {
		b := make([]byte, r.IntN(40))
		for i := range b {
			b[i] = byte(r.Uint32())
			if r.IntN(2) == 0 {
				b[i] %= 6
			}
		}
		want := api.ErrFrame
		if _, e := skein.Unpack(b); e == api.OK {
			want = api.OK
		}
		if sent, e := x.Heard(b); want == api.ErrFrame && (len(sent) != 0 || e != want) {
			t.Errorf("Heard(%x) = %x, %d", b, sent, e)
		}
		if sent, e := x.Heard(checked(b)); e != api.OK && (len(sent) != 0 || e != api.ErrFrame && e != api.ErrSession) {
			t.Errorf("Heard(%x) = %x, %d", checked(b), sent, e)
		}
	}
	if sent, e := x.Heard(bytes.Repeat([]byte{0x80}, 1<<20)); len(sent) != 0 || e != api.ErrFrame {
		t.Errorf("Heard of a great many bytes = %x, %d", sent, e)
	}
	if ops := x.Ops(); len(within(ops, key(7, 1), key(7, 21))) != len(was) {
		t.Errorf("Ops = %+v", ops)
	}
}

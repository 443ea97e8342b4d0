package msg

import (
	"bytes"
	"fmt"
	"math"
	"strings"
	"testing"

	"leapfrog/api"
)

// parts says of each kind of asks which parts it has, in the order of their bytes: w, r and s for Ref and Ref2, o.
func parts() map[api.AskKind]string {
	return map[api.AskKind]string{
		api.QRead: "w", api.QGet: "", api.QMark: "", api.QJoined: "", api.QLock: "wo", api.QFree: "wo", api.QOut: "wo",
		api.QRight: "wro", api.QLeft: "wr", api.QRec: "wrso",
	}
}

func vectors() []api.Vec {
	return []api.Vec{{}, {Len: 1}, {Len: 1, Bits: 1}, {Len: 3, Bits: 5}, {Len: 8, Bits: 255}, {Len: 9, Bits: 257}, {Len: 32}, {Len: 32, Bits: 1<<32 - 1}}
}

func wrongVectors() []api.Vec {
	return []api.Vec{{Len: -1}, {Len: math.MinInt}, {Len: 33}, {Len: 257, Bits: 1}, {Len: math.MaxInt}, {Bits: 1}, {Len: 3, Bits: 8}, {Len: 32, Bits: 1 << 32}, {Len: 2, Bits: math.MaxUint64}}
}

var low, high = api.Key{Rank: api.RLow}, api.Key{Rank: api.RHigh}

func at(n uint64) api.Key { return api.Key{Rank: api.RAt, N: n} }

// refs are references that pack takes: any ID, each key, each vector.
func refs() []api.Ref {
	return []api.Ref{
		{Key: low}, {ID: 1, Key: high, Vec: api.Vec{Len: 3}}, {ID: 2, Key: at(0)}, {Key: at(1), Vec: api.Vec{Len: 1, Bits: 1}},
		{ID: -1, Key: at(math.MaxUint64), Vec: api.Vec{Len: 32, Bits: 1<<32 - 1}}, {ID: math.MinInt, Key: low, Vec: api.Vec{Len: 9, Bits: 257}},
		{ID: math.MaxInt, Key: at(258), Vec: api.Vec{Len: 2, Bits: 1}},
	}
}

// wrongRefs are such as pack does not take, none of them zero.
func wrongRefs() []api.Ref {
	l := []api.Ref{{ID: 1}, {ID: -1}, {Vec: api.Vec{Len: 1}}, {Key: api.Key{N: 1}}, {ID: 1, Key: api.Key{Rank: 4}}, {Key: api.Key{Rank: -1}}, {Key: api.Key{Rank: 258, N: 1}}, {Key: api.Key{Rank: api.RLow, N: 1}}, {Key: api.Key{Rank: api.RHigh, N: 1}}}
	for _, v := range wrongVectors() {
		l = append(l, api.Ref{ID: 3, Key: at(5), Vec: v}, api.Ref{Vec: v})
	}
	return l
}

func owners() []api.Owner {
	return []api.Owner{{}, {Agent: 1, Op: 2}, {Agent: -1}, {Op: -1}, {Agent: math.MinInt, Op: math.MaxInt}, {Agent: math.MaxInt, Op: math.MinInt}, {Agent: 64, Op: 1 << 30}}
}

// rightAsks are asks of every kind that may be.
func rightAsks() []api.Ask {
	var l []api.Ask
	vs, rs, os := vectors(), refs(), owners()
	for kind := api.QRead; kind <= api.QJoined; kind++ {
		for i := range 56 {
			a := api.Ask{Kind: kind}
			for _, p := range parts()[kind] {
				switch p {
				case 'w':
					a.W = vs[i%len(vs)]
				case 'r':
					a.Ref = rs[i%len(rs)]
				case 's':
					a.Ref2 = rs[(i/8+i)%len(rs)]
				case 'o':
					a.Owner = os[i*3%len(os)]
				}
			}
			l = append(l, a)
			if parts()[kind] == "" {
				break
			}
		}
	}
	return l
}

// wrongKinds are numbers that are kinds neither of asks nor of answers.
func wrongKinds() []int {
	return []int{0, 11, 12, -1, -2, 127, 128, 255, 256, 257, 1 << 32, 1<<32 + 1, 1<<62 + 1, math.MinInt, math.MinInt + 1, math.MaxInt}
}

// wrongAsks are asks that may not be.
func wrongAsks() []api.Ask {
	l := []api.Ask{{}}
	for _, a := range rightAsks() {
		for _, k := range wrongKinds() {
			x := a
			x.Kind = api.AskKind(k)
			l = append(l, x)
		}
		l = append(l, withStrangers(a)...)
		l = append(l, withWrongParts(a)...)
	}
	return l
}

// withStrangers are an ask that may be with a part of another kind, each in turn.
func withStrangers(a api.Ask) []api.Ask {
	var l []api.Ask
	has := func(p string) bool { return strings.Contains(parts()[a.Kind], p) }
	put := func(p string, turn func(x *api.Ask)) {
		if !has(p) {
			x := a
			turn(&x)
			l = append(l, x)
		}
	}
	put("w", func(x *api.Ask) { x.W.Len = 1 })
	put("w", func(x *api.Ask) { x.W.Bits = 1 })
	for _, r := range append(refs(), wrongRefs()...) {
		put("r", func(x *api.Ask) { x.Ref = r })
		put("s", func(x *api.Ask) { x.Ref2 = r })
	}
	put("o", func(x *api.Ask) { x.Owner.Agent = 1 })
	put("o", func(x *api.Ask) { x.Owner.Op = -1 })
	return l
}

// withWrongParts are an ask that may be with each of its own parts as it may not be.
func withWrongParts(a api.Ask) []api.Ask {
	var l []api.Ask
	for _, v := range wrongVectors() {
		x := a
		x.W = v
		l = append(l, x)
	}
	for _, r := range append(wrongRefs(), api.Ref{}) {
		x, y := a, a
		x.Ref, y.Ref2 = r, r
		if strings.Contains(parts()[a.Kind], "r") {
			l = append(l, x)
		}
		if strings.Contains(parts()[a.Kind], "s") {
			l = append(l, y)
		}
	}
	return l
}

// values are rows up to the longest one that may be.
func values() [][]byte {
	return [][]byte{nil, {}, {0}, []byte("v"), []byte("value"), bytes.Repeat([]byte{255}, 127), bytes.Repeat([]byte{128}, 128), bytes.Repeat([]byte("x"), 1023), bytes.Repeat([]byte("y"), 1024)}
}

// rightAnswers are answers of every kind that may be.
func rightAnswers() []api.Answer {
	l := []api.Answer{{Kind: api.AGone}, {Kind: api.ANo}, {Kind: api.AGone, Value: []byte{}}, {Kind: api.ANo, Value: []byte{}}}
	sides := append(refs(), api.Ref{})
	for i, left := range sides {
		for j, right := range sides {
			l = append(l, api.Answer{Kind: api.ADead, Marked: (i+j)%2 == 0, Left: left, Right: right})
			v := values()
			l = append(l, api.Answer{Kind: api.AOK, Marked: (i+j)%2 == 1, Left: left, Right: right, Value: v[(i*3+j)%len(v)]})
		}
	}
	return append(l, api.Answer{Kind: api.ADead, Value: []byte{}})
}

// wrongAnswers are answers that may not be.
func wrongAnswers() []api.Answer {
	l := []api.Answer{{}, {Value: []byte{1}}, {Marked: true}}
	for _, a := range rightAnswers() {
		for _, k := range append(wrongKinds(), 5, 6, 10) {
			x := a
			x.Kind = api.AnswerKind(k)
			l = append(l, x)
		}
		for _, n := range []int{1025, 1026, 65536, 65537} {
			if a.Left == refs()[0] {
				x := a
				x.Value = make([]byte, n)
				l = append(l, x)
			}
		}
		for _, r := range wrongRefs() {
			x, y := a, a
			x.Left, y.Right = r, r
			l = append(l, x, y)
		}
	}
	for _, v := range values()[2:] {
		l = append(l, api.Answer{Kind: api.AGone, Value: v}, api.Answer{Kind: api.ANo, Value: v}, api.Answer{Kind: api.ADead, Value: v})
	}
	for _, r := range refs() {
		l = append(l, api.Answer{Kind: api.AGone, Left: r}, api.Answer{Kind: api.AGone, Right: r}, api.Answer{Kind: api.ANo, Left: r}, api.Answer{Kind: api.ANo, Right: r})
	}
	return append(l, api.Answer{Kind: api.AGone, Marked: true}, api.Answer{Kind: api.ANo, Marked: true})
}

func addresses() []api.Addr {
	return []api.Addr{{}, {Agent: true}, {N: 2}, {Agent: true, N: 1}, {N: -1}, {Agent: true, N: math.MinInt}, {N: math.MaxInt}}
}

func ids() []int { return []int{1, 2, 7, 63, 64, 1 << 30, 1<<62 - 1, 1 << 62} }

func wrongIDs() []int {
	return []int{0, -1, -7, 1<<62 + 1, math.MaxInt, math.MinInt, -1 << 62}
}

func request(i int, a api.Ask) api.Packet {
	return api.Packet{From: addresses()[i%7], To: addresses()[i*3%7], ID: ids()[i%8], Ask: a}
}

func reply(i int, a api.Answer) api.Packet {
	return api.Packet{Reply: true, From: addresses()[i%7], To: addresses()[i*3%7], ID: ids()[i%8], Answer: a}
}

func rightPackets() []api.Packet {
	var l []api.Packet
	for i, a := range rightAsks() {
		l = append(l, request(i, a))
	}
	for i, a := range rightAnswers() {
		l = append(l, reply(i, a))
	}
	get := api.Ask{Kind: api.QGet}
	for i := range 7 * 8 {
		l = append(l, request(i, get), reply(i, api.Answer{Kind: api.ANo}))
	}
	// An empty row is nil, in a request's answer too.
	return append(l, api.Packet{ID: 1, Ask: get, Answer: api.Answer{Value: []byte{}}})
}

func wrongPackets() []api.Packet {
	l := []api.Packet{{}, {ID: 1}, {ID: 1, Reply: true}}
	for i, a := range wrongAsks() {
		l = append(l, request(i, a))
	}
	for i, a := range wrongAnswers() {
		l = append(l, reply(i, a))
	}
	for i, p := range rightPackets() {
		x := p
		x.ID = wrongIDs()[i%7]
		l = append(l, x)
		x = p
		x.Reply = !p.Reply
		l = append(l, x)
	}
	return append(l, withOthersPart()...)
}

// withOthersPart are requests with something of an answer, replies with something of an ask.
func withOthersPart() []api.Packet {
	var l []api.Packet
	for i, a := range rightAsks() {
		p := reply(i, api.Answer{Kind: api.AOK})
		p.Ask = a
		l = append(l, p)
	}
	for _, a := range []api.Ask{{W: api.Vec{Len: 1}}, {Ref: api.Ref{ID: 1}}, {Ref2: api.Ref{ID: 1}}, {Owner: api.Owner{Agent: 1}}, {Owner: api.Owner{Op: 1}}} {
		p := reply(0, api.Answer{Kind: api.ANo})
		p.Ask = a
		l = append(l, p)
	}
	some := []api.Answer{{Marked: true}, {Left: api.Ref{ID: 1}}, {Right: api.Ref{ID: 1}}, {Value: []byte{0}}}
	for i, a := range append(rightAnswers(), some...) {
		p := request(i, api.Ask{Kind: api.QGet})
		p.Answer = a
		l = append(l, p)
	}
	return l
}

// cut is the text of something, or its beginning: a row may be long.
func cut(x any) string {
	s := fmt.Sprint(x)
	return s[:min(len(s), 200)]
}

// P4.1: asks of every kind that may be, and that may not.
func TestCheckAsk(t *testing.T) {
	for _, a := range rightAsks() {
		if e := CheckAsk(a); e != api.OK {
			t.Errorf("CheckAsk(%v) = %d", a, e)
		}
	}
	for _, a := range wrongAsks() {
		if e := CheckAsk(a); e != 40 {
			t.Errorf("CheckAsk(%v) = %d", a, e)
		}
	}
}

// P4.1: answers of every kind that may be, and that may not.
func TestCheckAnswer(t *testing.T) {
	for _, a := range rightAnswers() {
		if e := CheckAnswer(a); e != api.OK {
			t.Errorf("CheckAnswer(%s) = %d", cut(a), e)
		}
	}
	for _, a := range wrongAnswers() {
		if e := CheckAnswer(a); e != 40 {
			t.Errorf("CheckAnswer(%s) = %d", cut(a), e)
		}
	}
}

// P4.1: a Value at its greatest length, and one byte past it.
func TestLongValue(t *testing.T) {
	for n, want := range map[int]api.Errno{1023: 0, 1024: 0, 1025: 40} {
		a := api.Answer{Kind: api.AOK, Value: make([]byte, n)}
		if e := CheckAnswer(a); e != want {
			t.Errorf("CheckAnswer, with %d bytes, = %d", n, e)
		}
		if e := Check(reply(0, a)); e != want {
			t.Errorf("Check, with %d bytes, = %d", n, e)
		}
	}
}

// P4.1: a side may be nobody, on one side, on both, and on none; it may not be somebody that pack does not take.
func TestSides(t *testing.T) {
	r := api.Ref{ID: 3, Key: at(4), Vec: api.Vec{Len: 2, Bits: 1}}
	for _, kind := range []api.AnswerKind{api.AOK, api.ADead} {
		for _, a := range []api.Answer{{}, {Left: r}, {Right: r}, {Left: r, Right: r}, {Left: api.Ref{Key: low}}} {
			a.Kind = kind
			if e := CheckAnswer(a); e != api.OK {
				t.Errorf("CheckAnswer(%v) = %d", a, e)
			}
		}
		for _, a := range []api.Answer{{Left: api.Ref{ID: 1}}, {Right: api.Ref{ID: 1}}, {Left: r, Right: api.Ref{Vec: r.Vec}}} {
			a.Kind = kind
			if e := CheckAnswer(a); e != 40 {
				t.Errorf("CheckAnswer(%v) = %d", a, e)
			}
		}
	}
}

// P4.1: packets that may be, and that may not.
func TestCheck(t *testing.T) {
	for _, p := range rightPackets() {
		if e := Check(p); e != api.OK {
			t.Errorf("Check(%s) = %d", cut(p), e)
		}
	}
	for _, p := range wrongPackets() {
		if e := Check(p); e != 40 {
			t.Errorf("Check(%s) = %d", cut(p), e)
		}
	}
}

// P4.1: an ID at its bounds, and beyond them.
func TestCheckID(t *testing.T) {
	for _, p := range []api.Packet{{Ask: api.Ask{Kind: api.QGet}}, {Reply: true, Answer: api.Answer{Kind: api.AOK}}} {
		for _, id := range ids() {
			if p.ID = id; Check(p) != api.OK {
				t.Errorf("Check(%v) = %d", p, Check(p))
			}
		}
		for _, id := range wrongIDs() {
			if p.ID = id; Check(p) != 40 {
				t.Errorf("Check(%v) = %d", p, Check(p))
			}
		}
	}
}

// askTurns turn each field of an ask.
func askTurns() []func(a *api.Ask) {
	return []func(a *api.Ask){
		func(a *api.Ask) { a.Kind++ }, func(a *api.Ask) { a.W.Len++ }, func(a *api.Ask) { a.W.Bits++ },
		func(a *api.Ask) { a.Ref.ID++ }, func(a *api.Ask) { a.Ref.Key.Rank++ }, func(a *api.Ask) { a.Ref.Key.N++ },
		func(a *api.Ask) { a.Ref.Vec.Len++ }, func(a *api.Ask) { a.Ref.Vec.Bits++ },
		func(a *api.Ask) { a.Ref2.ID++ }, func(a *api.Ask) { a.Ref2.Key.Rank++ }, func(a *api.Ask) { a.Ref2.Key.N++ },
		func(a *api.Ask) { a.Ref2.Vec.Len++ }, func(a *api.Ask) { a.Ref2.Vec.Bits++ },
		func(a *api.Ask) { a.Owner.Agent++ }, func(a *api.Ask) { a.Owner.Op++ },
	}
}

// answerTurns turn each field of an answer.
func answerTurns() []func(a *api.Answer) {
	return []func(a *api.Answer){
		func(a *api.Answer) { a.Kind++ }, func(a *api.Answer) { a.Marked = !a.Marked },
		func(a *api.Answer) { a.Left.ID++ }, func(a *api.Answer) { a.Left.Key.Rank++ }, func(a *api.Answer) { a.Left.Key.N++ },
		func(a *api.Answer) { a.Left.Vec.Len++ }, func(a *api.Answer) { a.Left.Vec.Bits++ },
		func(a *api.Answer) { a.Right.ID++ }, func(a *api.Answer) { a.Right.Key.Rank++ }, func(a *api.Answer) { a.Right.Key.N++ },
		func(a *api.Answer) { a.Right.Vec.Len++ }, func(a *api.Answer) { a.Right.Vec.Bits++ },
		func(a *api.Answer) { a.Value = append([]byte{7}, a.Value...) },
		func(a *api.Answer) { a.Value = append(bytes.Clone(a.Value), 0) },
		func(a *api.Answer) {
			if a.Value = append([]byte{1}, a.Value...); len(a.Value) > 1 {
				a.Value = a.Value[1:]
				a.Value[len(a.Value)-1]++
			}
		},
	}
}

// packetTurns turn each field of a packet.
func packetTurns() []func(p *api.Packet) {
	l := []func(p *api.Packet){
		func(p *api.Packet) { p.Reply = !p.Reply }, func(p *api.Packet) { p.ID++ },
		func(p *api.Packet) { p.From.Agent = !p.From.Agent }, func(p *api.Packet) { p.From.N++ },
		func(p *api.Packet) { p.To.Agent = !p.To.Agent }, func(p *api.Packet) { p.To.N++ },
	}
	for _, turn := range askTurns() {
		l = append(l, func(p *api.Packet) { turn(&p.Ask) })
	}
	for _, turn := range answerTurns() {
		l = append(l, func(p *api.Packet) { turn(&p.Answer) })
	}
	return l
}

// emptied is an answer whose Value, if it has none, is empty and not nil.
func emptied(a api.Answer) api.Answer {
	a.Value = append([]byte{}, a.Value...)
	return a
}

// P4.1: each field of asks is looked at, of such as may not be as well.
func TestSameAsk(t *testing.T) {
	for _, a := range append(rightAsks(), wrongAsks()[:500]...) {
		if !SameAsk(a, a) {
			t.Errorf("SameAsk(%v, it) = false", a)
		}
		for i, turn := range askTurns() {
			x := a
			if turn(&x); SameAsk(a, x) || SameAsk(x, a) {
				t.Errorf("field %d of %v is not looked at", i, a)
			}
		}
	}
}

// P4.1: each field of answers is looked at; a nil and an empty Value are alike.
func TestSameAnswer(t *testing.T) {
	for _, a := range append(rightAnswers(), wrongAnswers()[:500]...) {
		if !SameAnswer(a, a) || !SameAnswer(a, emptied(a)) || !SameAnswer(emptied(a), a) {
			t.Errorf("SameAnswer(%s, it) = false", cut(a))
		}
		for i, turn := range answerTurns() {
			x := a
			if turn(&x); SameAnswer(a, x) || SameAnswer(x, a) {
				t.Errorf("field %d of %s is not looked at", i, cut(a))
			}
		}
	}
}

// P4.1: each field of packets is looked at.
func TestSame(t *testing.T) {
	for _, p := range append(rightPackets(), wrongPackets()[:500]...) {
		q := p
		q.Answer = emptied(p.Answer)
		if !Same(p, p) || !Same(p, q) || !Same(q, p) {
			t.Errorf("Same(%s, it) = false", cut(p))
		}
		for i, turn := range packetTurns() {
			x := p
			if turn(&x); Same(p, x) || Same(x, p) {
				t.Errorf("field %d of %s is not looked at", i, cut(p))
			}
		}
	}
}

// P4.3, P4.6: a reply to a request that may be, with each answer that may be, may be, and goes back to whom it came from.
func TestReply(t *testing.T) {
	answers := rightAnswers()
	for i, p := range rightPackets() {
		if p.Reply {
			continue
		}
		for _, a := range []api.Answer{answers[i%len(answers)], answers[i*7%len(answers)]} {
			r, e := Reply(p, a)
			want := api.Packet{Reply: true, From: p.To, To: p.From, ID: p.ID, Answer: a}
			if e != api.OK || !Same(r, want) {
				t.Errorf("Reply(%s, %s) = %s, %d", cut(p), cut(a), cut(r), e)
			}
			if Check(r) != api.OK || r.To != p.From || r.From != p.To {
				t.Errorf("%s to %s", cut(r), cut(p))
			}
		}
	}
}

// P4.3: no reply to what is one, to what may not be, and with an answer that may not be.
func TestReplyWrong(t *testing.T) {
	refused := func(p api.Packet, a api.Answer) {
		t.Helper()
		if r, e := Reply(p, a); e != 40 || !Same(r, api.Packet{}) {
			t.Errorf("Reply(%s, %s) = %s, %d", cut(p), cut(a), cut(r), e)
		}
	}
	for _, p := range rightPackets() {
		if p.Reply {
			refused(p, api.Answer{Kind: api.AOK})
		}
	}
	for _, p := range wrongPackets() {
		refused(p, api.Answer{Kind: api.AOK, Value: []byte("v")})
	}
	for i, a := range wrongAnswers() {
		refused(request(i, api.Ask{Kind: api.QGet}), a)
		refused(request(0, api.Ask{}), a)
	}
}

// What is handed in stays as it was, and a reply shares nothing with it, nor with another one.
func TestReplyOwn(t *testing.T) {
	long := []byte("value and what is behind")
	a := api.Answer{Kind: api.AOK, Value: long[:5]}
	p := request(1, api.Ask{Kind: api.QGet})
	r, _ := Reply(p, a)
	twin, _ := Reply(p, a)
	CheckAnswer(a)
	Check(r)
	SameAnswer(a, r.Answer)
	Same(r, twin)
	if string(long) != "value and what is behind" || !Same(p, request(1, api.Ask{Kind: api.QGet})) {
		t.Errorf("what was handed in is %q, %v", long, p)
	}
	clear(r.Answer.Value[:cap(r.Answer.Value)])
	if string(long) != "value and what is behind" || string(twin.Answer.Value) != "value" {
		t.Errorf("a reply shares its value: %q, %q", long, twin.Answer.Value)
	}
	clear(long)
	if string(twin.Answer.Value) != "value" {
		t.Errorf("a reply keeps an answer's value: %q", twin.Answer.Value)
	}
}

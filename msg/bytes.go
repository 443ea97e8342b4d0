package msg

import (
	"leapfrog/api"
	"leapfrog/pack"
)

// putter puts fields behind those that it has put.
type putter func(l ...api.Field)

// taker takes the next field, which is to be of a kind; where there is none such, a zero one.
type taker func(k api.FieldKind) api.Field

func number(n uint64) api.Field     { return api.Field{Kind: api.FNum, N: n} }
func whole(i int) api.Field         { return api.Field{Kind: api.FInt, I: i} }
func truth(t bool) api.Field        { return api.Field{Kind: api.FBool, T: t} }
func row(b []byte) api.Field        { return api.Field{Kind: api.FBytes, B: b} }
func vector(v api.Vec) api.Field    { return api.Field{Kind: api.FVec, V: v} }
func reference(r api.Ref) api.Field { return api.Field{Kind: api.FRef, R: r} }

// Encode are a packet's bytes.
func Encode(p api.Packet) ([]byte, api.Errno) {
	if e := Check(p); e != api.OK {
		return nil, e
	}
	var fields []api.Field
	putPacket(func(l ...api.Field) { fields = append(fields, l...) }, p)
	b, e := pack.Pack(fields...)
	return b, allowed(e == api.OK)
}

// Decode is the packet of bytes.
func Decode(b []byte) (api.Packet, api.Errno) {
	left, good := b, true
	p := takePacket(func(k api.FieldKind) api.Field {
		l, n, e := pack.First(left, k)
		if e != api.OK {
			good = false
			return api.Field{}
		}
		left = left[n:]
		return l[0]
	})
	// Each field has one form alone: these are the bytes of a packet that may be, if nothing was at fault and nothing is left.
	if !good || len(left) > 0 || Check(p) != api.OK {
		return api.Packet{}, api.ErrMsg
	}
	return p, api.OK
}

// putPacket puts a packet that may be.
func putPacket(put putter, p api.Packet) {
	put(truth(p.Reply))
	put(truth(p.From.Agent), whole(p.From.N))
	put(truth(p.To.Agent), whole(p.To.N))
	put(whole(p.ID))
	if p.Reply {
		putAnswer(put, p.Answer)
	} else {
		putAsk(put, p.Ask)
	}
}

// takePacket takes a packet, of which is not known yet whether it may be.
func takePacket(take taker) api.Packet {
	var p api.Packet
	p.Reply = take(api.FBool).T
	p.From = takeAddress(take)
	p.To = takeAddress(take)
	p.ID = take(api.FInt).I
	if p.Reply {
		p.Answer = takeAnswer(take)
	} else {
		p.Ask = takeAsk(take)
	}
	return p
}

// takeAddress takes an address.
func takeAddress(take taker) api.Addr {
	var a api.Addr
	a.Agent = take(api.FBool).T
	a.N = take(api.FInt).I
	return a
}

// putAsk puts an ask that may be.
func putAsk(put putter, a api.Ask) {
	put(number(uint64(a.Kind)))
	has, _ := partsOfAsk(a.Kind)
	if has.w {
		put(vector(a.W))
	}
	if has.ref {
		put(reference(a.Ref))
	}
	if has.ref2 {
		put(reference(a.Ref2))
	}
	if has.owner {
		put(whole(a.Owner.Agent), whole(a.Owner.Op))
	}
}

// takeAsk takes an ask; of a kind that is none, that alone.
func takeAsk(take taker) api.Ask {
	a := api.Ask{Kind: api.AskKind(take(api.FNum).N)}
	has, _ := partsOfAsk(a.Kind)
	if has.w {
		a.W = take(api.FVec).V
	}
	if has.ref {
		a.Ref = take(api.FRef).R
	}
	if has.ref2 {
		a.Ref2 = take(api.FRef).R
	}
	if has.owner {
		a.Owner.Agent = take(api.FInt).I
		a.Owner.Op = take(api.FInt).I
	}
	return a
}

// putAnswer puts an answer that may be.
func putAnswer(put putter, a api.Answer) {
	put(number(uint64(a.Kind)))
	has, _ := partsOfAnswer(a.Kind)
	if has.sides {
		put(truth(a.Marked))
		putSide(put, a.Left)
		putSide(put, a.Right)
	}
	if has.value {
		put(row(a.Value))
	}
}

// takeAnswer takes an answer; of a kind that is none, that alone.
func takeAnswer(take taker) api.Answer {
	a := api.Answer{Kind: api.AnswerKind(take(api.FNum).N)}
	has, _ := partsOfAnswer(a.Kind)
	if has.sides {
		a.Marked = take(api.FBool).T
		a.Left = takeSide(take)
		a.Right = takeSide(take)
	}
	if has.value {
		a.Value = take(api.FBytes).B
	}
	return a
}

// putSide puts a side; where there is nobody, that alone.
func putSide(put putter, r api.Ref) {
	if r == (api.Ref{}) {
		put(truth(false))
		return
	}
	put(truth(true), reference(r))
}

// takeSide takes a side.
func takeSide(take taker) api.Ref {
	if !take(api.FBool).T {
		return api.Ref{}
	}
	return take(api.FRef).R
}

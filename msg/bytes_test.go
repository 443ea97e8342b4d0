package msg

import (
	"bytes"
	"encoding/binary"
	"encoding/hex"
	"sort"
	"strings"
	"testing"

	"leapfrog/api"
)

// The tests hold bytes against those that the library's encoding/binary makes, whose numbers of changing length are the document's.

func truthBytes(b []byte, t bool) []byte {
	if t {
		return append(b, 1)
	}
	return append(b, 0)
}

func addressBytes(b []byte, a api.Addr) []byte {
	return binary.AppendVarint(truthBytes(b, a.Agent), int64(a.N))
}

func vectorBytes(b []byte, v api.Vec) []byte {
	b = append(b, byte(v.Len))
	var four [4]byte
	if v.Len > 0 {
		binary.BigEndian.PutUint32(four[:], uint32(v.Bits<<(32-v.Len)))
	}
	return append(b, four[:(v.Len+7)/8]...)
}

func refBytes(b []byte, r api.Ref) []byte {
	b = append(binary.AppendVarint(b, int64(r.ID)), byte(r.Key.Rank))
	if r.Key.Rank == api.RAt {
		b = binary.BigEndian.AppendUint64(b, r.Key.N)
	}
	return vectorBytes(b, r.Vec)
}

func askBytes(b []byte, a api.Ask) []byte {
	b = append(b, byte(a.Kind))
	for _, p := range parts()[a.Kind] {
		switch p {
		case 'w':
			b = vectorBytes(b, a.W)
		case 'r':
			b = refBytes(b, a.Ref)
		case 's':
			b = refBytes(b, a.Ref2)
		case 'o':
			b = binary.AppendVarint(binary.AppendVarint(b, int64(a.Owner.Agent)), int64(a.Owner.Op))
		}
	}
	return b
}

func answerBytes(b []byte, a api.Answer) []byte {
	b = append(b, byte(a.Kind))
	if a.Kind == api.AGone || a.Kind == api.ANo {
		return b
	}
	b = truthBytes(b, a.Marked)
	for _, r := range []api.Ref{a.Left, a.Right} {
		if r == (api.Ref{}) {
			b = append(b, 0)
		} else {
			b = refBytes(append(b, 1), r)
		}
	}
	if a.Kind == api.AOK {
		b = append(binary.AppendUvarint(b, uint64(len(a.Value))), a.Value...)
	}
	return b
}

// bytesOf are the bytes of a packet that may be.
func bytesOf(p api.Packet) []byte {
	b := addressBytes(addressBytes(truthBytes(nil, p.Reply), p.From), p.To)
	b = binary.AppendVarint(b, int64(p.ID))
	if p.Reply {
		return answerBytes(b, p.Answer)
	}
	return askBytes(b, p.Ask)
}

// refused holds that bytes are no packet's.
func refused(t *testing.T, b []byte) {
	t.Helper()
	if p, e := Decode(b); e != 40 || !Same(p, api.Packet{}) {
		t.Errorf("Decode(%.80x) = %s, %d", b, cut(p), e)
	}
}

// P4.2: the bytes of packets of every kind, and the packets of the bytes.
func TestEncodeDecode(t *testing.T) {
	for _, p := range rightPackets() {
		want := bytesOf(p)
		if b, e := Encode(p); !bytes.Equal(b, want) || e != api.OK {
			t.Errorf("Encode(%s) = %.80x, %d; not %.80x", cut(p), b, e, want)
		}
		if q, e := Decode(want); !Same(p, q) || e != api.OK {
			t.Errorf("Decode(%.80x) = %s, %d; not %s", want, cut(q), e, cut(p))
		}
	}
}

// P4.2: bytes that are written out: the order of parts, and which of them there are.
func TestWrittenOut(t *testing.T) {
	r := api.Ref{ID: 3, Key: at(4), Vec: api.Vec{Len: 2, Bits: 1}}
	s := api.Ref{ID: -1, Key: high}
	o := api.Owner{Agent: 1, Op: -2}
	w := api.Vec{Len: 3, Bits: 5}
	const rBytes, sBytes, oBytes, wBytes = "06 02 0000000000000004 02 40", "01 03 00", "02 03", "03 a0"
	to := api.Packet{From: api.Addr{Agent: true, N: 1}, To: api.Addr{N: 2}, ID: 7}
	back := api.Packet{Reply: true, From: to.To, To: to.From, ID: 7}
	ask := func(a api.Ask) api.Packet { to.Ask = a; return to }
	answer := func(a api.Answer) api.Packet { back.Answer = a; return back }
	const toBytes, backBytes = "00 01 02 00 04 0e", "01 00 04 01 02 0e"
	tests := []struct {
		p api.Packet
		b string
	}{
		{ask(api.Ask{Kind: api.QRead, W: w}), toBytes + "01" + wBytes},
		{ask(api.Ask{Kind: api.QRead}), toBytes + "01 00"},
		{ask(api.Ask{Kind: api.QGet}), toBytes + "02"},
		{ask(api.Ask{Kind: api.QLock, W: w, Owner: o}), toBytes + "03" + wBytes + oBytes},
		{ask(api.Ask{Kind: api.QFree, W: w, Owner: o}), toBytes + "04" + wBytes + oBytes},
		{ask(api.Ask{Kind: api.QRight, W: w, Ref: r, Owner: o}), toBytes + "05" + wBytes + rBytes + oBytes},
		{ask(api.Ask{Kind: api.QLeft, W: w, Ref: s}), toBytes + "06" + wBytes + sBytes},
		{ask(api.Ask{Kind: api.QRec, W: w, Ref: r, Ref2: s, Owner: o}), toBytes + "07" + wBytes + rBytes + sBytes + oBytes},
		{ask(api.Ask{Kind: api.QOut, W: w, Owner: o}), toBytes + "08" + wBytes + oBytes},
		{ask(api.Ask{Kind: api.QMark}), toBytes + "09"},
		{ask(api.Ask{Kind: api.QJoined}), toBytes + "0a"},
		{answer(api.Answer{Kind: api.AOK}), backBytes + "01 00 00 00 00"},
		{answer(api.Answer{Kind: api.AOK, Marked: true, Left: r, Right: s, Value: []byte("hi")}), backBytes + "01 01 01" + rBytes + "01" + sBytes + "02 68 69"},
		{answer(api.Answer{Kind: api.AOK, Right: s, Value: []byte{0}}), backBytes + "01 00 00 01" + sBytes + "01 00"},
		{answer(api.Answer{Kind: api.AGone}), backBytes + "02"},
		{answer(api.Answer{Kind: api.ADead, Marked: true, Left: s}), backBytes + "03 01 01" + sBytes + "00"},
		{answer(api.Answer{Kind: api.ANo}), backBytes + "04"},
	}
	for _, x := range tests {
		want, err := hex.DecodeString(strings.ReplaceAll(x.b, " ", ""))
		if err != nil {
			t.Fatal(err)
		}
		if b, e := Encode(x.p); !bytes.Equal(b, want) || e != api.OK {
			t.Errorf("Encode(%v) = %x, %d; not %x", x.p, b, e, want)
		}
		if p, e := Decode(want); !Same(p, x.p) || e != api.OK {
			t.Errorf("Decode(%x) = %v, %d; not %v", want, p, e, x.p)
		}
	}
}

// P4.2: packets that may not be have no bytes.
func TestEncodeWrong(t *testing.T) {
	for _, p := range wrongPackets() {
		if b, e := Encode(p); len(b) != 0 || e != 40 {
			t.Errorf("Encode(%s) = %.80x, %d", cut(p), b, e)
		}
	}
}

// some are packets that may be, whose bytes are not many.
func some() []api.Packet {
	var l []api.Packet
	for _, p := range rightPackets() {
		if len(p.Answer.Value) < 10 {
			l = append(l, p)
		}
	}
	return l
}

// P4.2, P4.5: bytes that end too early, at every place, and bytes that go on behind a packet.
func TestDecodeLength(t *testing.T) {
	refused(t, nil)
	refused(t, []byte{})
	for _, p := range some() {
		b := bytesOf(p)
		for n := range b {
			refused(t, b[:n])
		}
		for _, tail := range []string{"\x00", "\x01", "\x80", "\xff", "\x00\x00", string(b)} {
			refused(t, append(bytes.Clone(b), tail...))
		}
	}
	long := bytesOf(reply(0, api.Answer{Kind: api.AOK, Value: make([]byte, 1024)}))
	for n := range long {
		refused(t, long[:n])
	}
	refused(t, append(long, 0))
}

// P4.2: kinds that are none, with nothing behind them and with the parts of each kind.
func TestDecodeKind(t *testing.T) {
	var tails [][]byte
	for _, a := range rightAsks() {
		tails = append(tails, askBytes(nil, a)[1:])
	}
	for _, a := range rightAnswers() {
		tails = append(tails, answerBytes(nil, a)[1:])
	}
	ask, answer := bytesOf(request(3, api.Ask{Kind: api.QGet})), bytesOf(reply(3, api.Answer{Kind: api.ANo}))
	ask, answer = ask[:len(ask)-1], answer[:len(answer)-1]
	for _, tail := range tails {
		for _, k := range append(wrongKinds(), 5, 10) {
			kind := binary.AppendUvarint(nil, uint64(k))
			if k != 5 && k != 10 {
				refused(t, append(append(bytes.Clone(ask), kind...), tail...))
			}
			refused(t, append(append(bytes.Clone(answer), kind...), tail...))
		}
	}
}

// P4.2: an ID beyond its bounds, a Value one byte too long, or far too long.
func TestDecodeBounds(t *testing.T) {
	for _, id := range wrongIDs() {
		for _, p := range []api.Packet{request(1, api.Ask{Kind: api.QMark}), reply(1, api.Answer{Kind: api.AGone})} {
			p.ID = id
			refused(t, bytesOf(p))
		}
	}
	for n, may := range map[int]bool{1023: true, 1024: true, 1025: false, 65536: false, 65537: false} {
		p := reply(2, api.Answer{Kind: api.AOK, Value: bytes.Repeat([]byte{3}, n)})
		if q, e := Decode(bytesOf(p)); may && (e != api.OK || !Same(p, q)) {
			t.Errorf("Decode, of a value of %d bytes: %s, %d", n, cut(q), e)
		}
		if !may {
			refused(t, bytesOf(p))
		}
	}
}

// P4.2: a byte that may not stand at a place of its.
func TestDecodeByte(t *testing.T) {
	for _, s := range []string{
		"02 00 02 00 04 0e 02", "80 00 01 02 00 04 0e 02", // Reply
		"00 02 02 00 04 0e 02", "00 01 02 03 04 0e 02", // addresses' Agent
		"00 01 82 00 00 04 0e 02", "00 01 02 00 84 00 0e 02", "00 01 02 00 04 8e 00 02", // a zero that need not be
		"00 01 02 00 04 00 02", "00 01 02 00 04 01 02", // ID 0, ID -1
		"00 01 02 00 04 0e 00", "00 01 02 00 04 0e 0b", "00 01 02 00 04 0e 82 00", // kinds of asks
		"00 01 02 00 04 0e 01 21 00 00 00 00 00", "00 01 02 00 04 0e 01 03 b0", // W
		"00 01 02 00 04 0e 06 00 06 00 00", "00 01 02 00 04 0e 06 00 06 04 00", // a Ref's key
		"01 00 04 01 02 0e 00", "01 00 04 01 02 0e 05", "01 00 04 01 02 0e 84 00", // kinds of answers
		"01 00 04 01 02 0e 03 02 00 00", "01 00 04 01 02 0e 03 00 02 00", "01 00 04 01 02 0e 03 00 00 02", // truths
		"01 00 04 01 02 0e 03 00 01 00 00 00 00", // a side that is told to be there, and is zero
		"01 00 04 01 02 0e 03 00 00 00 00",       // a Value of ADead
		"01 00 04 01 02 0e 01 00 00 00 80 00",    // a length of a Value
	} {
		b, err := hex.DecodeString(strings.ReplaceAll(s, " ", ""))
		if err != nil {
			t.Fatal(err)
		}
		refused(t, b)
	}
}

// backOrNone holds that bytes are no packet's, or just those of the packet that they are decoded to, which may be.
func backOrNone(t *testing.T, b []byte) {
	t.Helper()
	p, e := Decode(b)
	if e != api.OK {
		refused(t, b)
		return
	}
	if c, e := Encode(p); Check(p) != api.OK || !bytes.Equal(b, c) || e != api.OK {
		t.Errorf("Decode(%.80x) = %s, whose bytes are %.80x, %d", b, cut(p), c, e)
	}
}

// P4.4: Decode of Encode is the packet; and what is decoded of bytes in which one byte is another one is encoded as these.
func TestThereAndBack(t *testing.T) {
	for i, p := range some() {
		b, e := Encode(p)
		if q, f := Decode(b); e != api.OK || f != api.OK || !Same(p, q) {
			t.Errorf("%s comes back as %s, %d, %d", cut(p), cut(q), e, f)
		}
		for n := range b {
			for c := (i + n) % 13; c < 256; c += 13 {
				x := bytes.Clone(b)
				x[n] = byte(c)
				backOrNone(t, x)
			}
			backOrNone(t, append(bytes.Clone(b[:n]), b[n+1:]...))
			backOrNone(t, append(append(bytes.Clone(b[:n]), byte(i)), b[n:]...))
		}
	}
}

// P4.2, P4.4: all bodies of one and two bytes: of requests three kinds alone and a read of no bits, of replies two kinds alone.
func TestShortBodies(t *testing.T) {
	are := map[string]bool{"\x00\x02": true, "\x00\x09": true, "\x00\x0a": true, "\x00\x01\x00": true, "\x01\x02": true, "\x01\x04": true}
	for _, reply := range []byte{0, 1} {
		for c := range 256 * 256 {
			for n := 1; n <= 2; n++ {
				body := []byte{byte(c), byte(c >> 8)}[:n]
				b := append([]byte{reply, 1, 2, 0, 4, 0x0e}, body...)
				if _, e := Decode(b); (e == api.OK) != are[string(reply)+string(body)] {
					t.Errorf("Decode(%x): %d", b, e)
				}
				backOrNone(t, b)
			}
		}
	}
}

// P4.5: bytes of unlike packets are unlike, and none's are a beginning of another one's.
func TestApart(t *testing.T) {
	all := map[string]api.Packet{}
	var texts []string
	for _, p := range rightPackets() {
		b, _ := Encode(p)
		s := string(b)
		if q, there := all[s]; there && !Same(p, q) {
			t.Errorf("%s and %s have the same bytes", cut(p), cut(q))
		} else if !there {
			all[s] = p
			texts = append(texts, s)
		}
	}
	// In order, what begins with another text stands right behind it, or behind others that begin with it.
	sort.Strings(texts)
	for i := 1; i < len(texts); i++ {
		if strings.HasPrefix(texts[i], texts[i-1]) {
			t.Errorf("%.80x is a beginning of %.80x", texts[i-1], texts[i])
		}
	}
}

// P4.6: a reply goes over bytes as well.
func TestReplyBytes(t *testing.T) {
	for i, a := range rightAnswers() {
		r, e := Reply(request(i, api.Ask{Kind: api.QGet}), a)
		if e != api.OK {
			t.Fatal(e)
		}
		b, _ := Encode(r)
		if q, e := Decode(b); e != api.OK || !Same(q, r) || !SameAnswer(q.Answer, a) {
			t.Errorf("%s comes back as %s, %d", cut(r), cut(q), e)
		}
	}
}

// What is handed in stays as it was, and nothing is shared with it.
func TestBytesOwn(t *testing.T) {
	long := []byte("value and what is behind")
	p := reply(1, api.Answer{Kind: api.AOK, Value: long[:5]})
	b, _ := Encode(p)
	twin, _ := Encode(p)
	want := bytesOf(p)
	clear(b[:cap(b)])
	if string(long) != "value and what is behind" || !bytes.Equal(twin, want) {
		t.Errorf("bytes are shared: %q, %x", long, twin)
	}
	q, _ := Decode(twin)
	r, _ := Decode(twin)
	if !bytes.Equal(twin, want) {
		t.Errorf("what was handed in is %x", twin)
	}
	clear(q.Answer.Value[:cap(q.Answer.Value)])
	if !bytes.Equal(twin, want) || string(r.Answer.Value) != "value" {
		t.Errorf("a value is shared: %x, %q", twin, r.Answer.Value)
	}
	clear(twin)
	clear(long)
	if string(r.Answer.Value) != "value" {
		t.Errorf("a value is kept: %q", r.Answer.Value)
	}
}

// The example of the document.
func TestExample(t *testing.T) {
	p := api.Packet{From: api.Addr{Agent: true, N: 1}, To: api.Addr{N: 2}, ID: 7, Ask: api.Ask{Kind: api.QGet}}
	if b, e := Encode(p); string(b) != "\x00\x01\x02\x00\x04\x0e\x02" || e != api.OK {
		t.Errorf("Encode = %x, %d", b, e)
	}
	if q, e := Decode([]byte{0, 1, 2, 0, 4, 0x0e, 2}); !Same(p, q) || e != api.OK {
		t.Errorf("Decode = %v, %d", q, e)
	}
}

// P4.2, P4.4: whatever the bytes are, they are no packet's, or come back.
func FuzzDecode(f *testing.F) {
	for _, p := range some() {
		f.Add(bytesOf(p))
	}
	f.Fuzz(func(t *testing.T, b []byte) { backOrNone(t, b) })
}

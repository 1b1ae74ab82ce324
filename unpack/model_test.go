package unpack_test

import (
	"bytes"
	"encoding/binary"
	"encoding/hex"
	"math"
	"math/big"
	"reflect"
	"strconv"
	"strings"
	"testing"

	"shunter/api"
	"shunter/code"
	"shunter/image"
	"shunter/name"
	"shunter/pack"
	"shunter/unpack"
	"shunter/wire"
)

// The model goes over bytes as a grammar tells them, which has the words of the chapters: of each thing its parts, how each is written, and of a list how many there may be. It gives up at the first fault.

var partsOf = []string{
	"Name name, Ports n1, Depth n1, Rounds n1",
	"Headers 16 header",
	"Insts 16 inst",
	"Metas 16 field",
	"States 16 state",
	"Actions 32 action",
	"Tables 8 table",
	"Ingress 32 node",
	"Egress 32 node",
	"Deparse 32 numbers",
	"Checks 4 sum",
	"Updates 4 sum",
	"Regs 8 reg",
	"Counters 8 counter",
	"Meters 8 meter",
}

var grammar = map[string]string{
	"header":  "Name name, Fields 16 field, Var n1, By n1, Mul n1, Sub n2",
	"field":   "Name name, W n1",
	"inst":    "Name name, Header n1, Depth n1",
	"state":   "Name name, Exts 4 ext, Keys 4 key, Cases 8 case, Next next",
	"ext":     "Kind kind2, N n1",
	"key":     "Kind kind2, A n2, B n1",
	"case":    "Value row, Mask row, Next next",
	"action":  "Name name, Params 8 numbers, Code 64 ins",
	"table":   "Name name, Kind kind3, Keys 4 key, Actions 8 numbers, Default call, Size n2",
	"call":    "Action n1, Args 8 rows",
	"node":    "Kind kind3",
	"node0":   "A n1, Yes n1, No n1",
	"node1":   "Code 64 ins, Yes n1, No n1",
	"node2":   "A n1, Args 8 rows, Yes n1",
	"node3":   "A n1, Yes n1, No n1",
	"ins":     "Op kind34",
	"sum":     "Slot n1, Field n1",
	"reg":     "Name name, W n1, Log n1",
	"counter": "Name name, Log n1",
	"meter":   "Name name, Log n1, Rate n2, Burst n4",
}

// names are the parts of an instruction that its operation names, by its name in layer 9's table.
var names = map[string]string{
	"push":  "V row",
	"field": "A n1, B n1", "put-field": "A n1, B n1",
	"meta": "A n1", "put-meta": "A n1",
	"param": "A n1",
	"valid": "A n1", "show": "A n1", "hide": "A n1",
	"reg": "A n1", "put-reg": "A n1",
	"shl": "A n1", "shr": "A n1",
	"slice":     "A n1, B n1",
	"cast":      "A n1",
	"push-head": "A n1, B n1", "pop-head": "A n1, B n1",
	"count": "A n1", "meter": "A n1",
	"jump": "A n1", "jump-zero": "A n1",
	"jump-gone": "A n1, B n1",
}

type model struct {
	b  []byte
	at int
}

// must ends it with a fault where the model is.
func (k *model) must(so bool, e api.Errno) {
	if !so {
		panic(wire.Fault{E: e, At: k.at})
	}
}

func (k *model) number(count, most int, e api.Errno) int {
	k.must(k.at+count <= len(k.b), api.ErrEnd)
	n := new(big.Int).SetBytes(k.b[k.at : k.at+count])
	k.must(n.Cmp(big.NewInt(int64(most))) <= 0, e)
	k.at += count
	return int(n.Int64())
}

func (k *model) name() string {
	k.must(k.at < len(k.b), api.ErrEnd)
	end := k.at + 1 + int(k.b[k.at])
	k.must(end <= len(k.b), api.ErrEnd)
	s := string(k.b[k.at+1 : end])
	k.must(name.May(s), api.ErrForm)
	k.at = end
	return s
}

func (k *model) row() api.Vec {
	k.must(k.at < len(k.b), api.ErrEnd)
	w := int(k.b[k.at])
	k.must(1 <= w && w <= 128, api.ErrWidth)
	end := k.at + 1 + int(math.Ceil(float64(w)/8))
	k.must(end <= len(k.b), api.ErrEnd)
	n := new(big.Int).SetBytes(k.b[k.at+1 : end])
	k.must(n.BitLen() <= w, api.ErrForm)
	k.at = end
	low := new(big.Int).SetUint64(math.MaxUint64)
	return api.Vec{W: w, Hi: new(big.Int).Rsh(n, 64).Uint64(), Lo: low.And(low, n).Uint64()}
}

func (k *model) next() int {
	n := k.number(1, 255, api.ErrRange)
	if to, ok := map[int]int{255: api.Accept, 254: api.Reject}[n]; ok {
		return to
	}
	return n
}

func (k *model) thing(v reflect.Value, how string) {
	switch how {
	case "name":
		v.SetString(k.name())
	case "row":
		v.Set(reflect.ValueOf(k.row()))
	case "next":
		v.SetInt(int64(k.next()))
	case "n1", "n2", "n4":
		count := int(how[1] - '0')
		v.SetInt(int64(k.number(count, 1<<(8*count)-1, api.ErrRange)))
	case "kind2", "kind3", "kind34":
		v.SetInt(int64(k.number(1, digits(how[4:]), api.ErrRange)))
	case "node":
		k.fill(v, grammar[how])
		k.fill(v, grammar[how+strconv.Itoa(int(v.FieldByName("Kind").Int()))])
	case "ins":
		k.fill(v, grammar[how])
		k.fill(v, names[code.Name(v.FieldByName("Op").Interface().(api.Op))])
	default:
		k.fill(v, grammar[how])
	}
}

// fill fills a struct's parts.
func (k *model) fill(v reflect.Value, parts string) {
	for part := range strings.SplitSeq(parts, ", ") {
		switch w := strings.Fields(part); len(w) {
		case 2:
			k.thing(v.FieldByName(w[0]), w[1])
		case 3:
			k.list(v.FieldByName(w[0]), digits(w[1]), w[2])
		}
	}
}

func (k *model) list(v reflect.Value, most int, how string) {
	e := api.ErrRange
	if one, ok := map[string]string{"numbers": "n1", "rows": "row"}[how]; ok {
		how, e = one, api.ErrLong
	}
	n := k.number(1, most, e)
	v.Set(reflect.MakeSlice(v.Type(), n, n))
	for i := range n {
		k.thing(v.Index(i), how)
	}
}

func (k *model) certain(want int) {
	n := k.number(1, 255, api.ErrRange)
	k.must(n == want, api.ErrForm)
}

func (k *model) image() (m api.Image) {
	for _, c := range []byte{'S', 'H', 'N', 'T', 1} {
		k.certain(int(c))
	}
	for i, part := range partsOf {
		k.certain(i)
		length := k.number(4, 65535, api.ErrRange)
		k.must(k.at+length <= len(k.b), api.ErrEnd)
		end := k.at + length
		k.fill(reflect.ValueOf(&m).Elem(), part)
		k.must(k.at == end, api.ErrLong)
	}
	return m
}

func (k *model) code() []api.Ins {
	var x struct{ Code []api.Ins }
	k.fill(reflect.ValueOf(&x).Elem(), "Code 64 ins")
	return x.Code
}

// modelled is what bytes are for the model, or its fault.
func modelled[T any](b []byte, thing func(k *model) T) (x T, f *wire.Fault) {
	defer func() {
		if r := recover(); r != nil {
			var none T
			first := r.(wire.Fault)
			x, f = none, &first
		}
	}()
	k := &model{b: b}
	k.must(len(b) <= 65535, api.ErrLong)
	x = thing(k)
	k.must(k.at == len(b), api.ErrLong)
	return x, nil
}

// asModel holds Unpack against the model, and what is unpacked against its bytes.
func asModel(t *testing.T, b []byte) (m api.Image, err error) {
	t.Helper()
	kept := bytes.Clone(b)
	m, err = unpack.Unpack(b)
	if !bytes.Equal(b, kept) {
		t.Fatalf("Unpack changed % x to % x", kept, b)
	}
	want, f := modelled(b, (*model).image)
	switch flaw := image.Check(want); {
	case f != nil:
		told(t, err, f.E, f.At, true)
	case flaw != nil:
		x, ok := err.(*image.Flaw)
		if !ok || *x != *image.Only(flaw) {
			t.Fatalf("Unpack of % x: %v; want %v", b, err, flaw)
		}
		told(t, err, x.E, x.Part, false)
	default:
		asPacked(t, b, m, err)
		if !image.Same(m, want) {
			t.Fatalf("Unpack of % x = %v; want %v", b, m, want)
		}
		return m, err
	}
	if !reflect.ValueOf(m).IsZero() {
		t.Fatalf("Unpack of % x = %v beside %v", b, m, err)
	}
	return m, err
}

// asPacked asks of what was unpacked that it was packed as the bytes.
func asPacked(t *testing.T, b []byte, m api.Image, err error) {
	t.Helper()
	told(t, err, api.OK, 0, false)
	if err != nil {
		t.Fatalf("Unpack of % x: %v", b, err)
	}
	if again, e := pack.Pack(m); e != api.OK || !bytes.Equal(again, b) {
		t.Fatalf("Unpack of % x is packed as % x, %d", b, again, e)
	}
}

// codeAsModel holds Code against the model.
func codeAsModel(t *testing.T, b []byte) {
	t.Helper()
	kept := bytes.Clone(b)
	l, err := unpack.Code(b)
	want, f := modelled(b, (*model).code)
	if !bytes.Equal(b, kept) {
		t.Fatalf("Code changed % x to % x", kept, b)
	}
	if f != nil {
		told(t, err, f.E, f.At, true)
	} else {
		told(t, err, api.OK, 0, false)
	}
	if len(l) != len(want) || len(l) > 0 && !reflect.DeepEqual(l, want) || (err == nil) != (f == nil) {
		t.Fatalf("Code of % x = %v, %v; want %v, %v", b, l, err, want, f)
	}
}

// told asks Why, and that what is wrong with bytes is a *wire.Fault.
func told(t *testing.T, err error, e api.Errno, at int, inBytes bool) {
	t.Helper()
	if gotE, gotAt, gotIn := unpack.Why(err); gotE != e || gotAt != at || gotIn != inBytes {
		t.Fatalf("Why(%v) = %d, %d, %t; want %d, %d, %t", err, gotE, gotAt, gotIn, e, at, inBytes)
	}
	if f, ok := err.(*wire.Fault); ok != inBytes || ok && *f != (wire.Fault{E: e, At: at}) {
		t.Fatalf("%#v; want the fault %d at %d: %t", err, e, at, inBytes)
	}
}

// Bytes.

func digits(s string) int {
	n, err := strconv.Atoi(s)
	if err != nil {
		panic(err)
	}
	return n
}

// bytesOf are bytes in words of digits of the base 16.
func bytesOf(s string) []byte {
	b, err := hex.DecodeString(strings.ReplaceAll(s, " ", ""))
	if err != nil {
		panic(err)
	}
	return b
}

const markOf = "SHNT\x01"

// laid are an image's bytes of its sections; the places are where each section's number stands, and where they end.
func laid(sections [][]byte) ([]byte, []int) {
	b := []byte(markOf)
	var places []int
	for part, s := range sections {
		places = append(places, len(b))
		b = binary.BigEndian.AppendUint32(append(b, byte(part)), uint32(len(s)))
		b = append(b, s...)
	}
	return b, append(places, len(b))
}

// sectionsOf are an image's sections.
func sectionsOf(t *testing.T, m api.Image) [][]byte {
	t.Helper()
	var l [][]byte
	for part := range partsOf {
		s, e := pack.Section(m, part)
		if e != api.OK {
			t.Fatalf("Section %d: %d", part, e)
		}
		l = append(l, s)
	}
	return l
}

// leastWith are the least image's bytes with another section, and where what this section has begins.
func leastWith(part int, section []byte) ([]byte, int) {
	var l [][]byte
	for i := range partsOf {
		l = append(l, map[int][]byte{0: bytesOf("016d010100"), 4: bytesOf("010173000000ff")}[i])
		if l[i] == nil {
			l[i] = []byte{0}
		}
	}
	l[part] = section
	b, places := laid(l)
	return b, places[part] + 5
}

func packed(t *testing.T, m api.Image) []byte {
	t.Helper()
	b, e := pack.Pack(m)
	if e != api.OK {
		t.Fatalf("Pack: %d", e)
	}
	return b
}

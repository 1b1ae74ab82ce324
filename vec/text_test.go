package vec_test

import (
	"math"
	"math/big"
	"strconv"
	"strings"
	"testing"

	"shunter/api"
	"shunter/vec"
)

// Promise 2.5.

func TestText(t *testing.T) {
	each(func(a api.Vec) {
		if s := vec.Text(a); s != strconv.Itoa(a.W)+"'"+number(a).Text(16) {
			t.Errorf("Text(%v) = %q", a, s)
		}
	})
	for _, a := range wrongRows() {
		if s := vec.Text(a); s != "" {
			t.Errorf("Text(%v) = %q; want none", a, s)
		}
	}
}

func TestTextEdges(t *testing.T) {
	for _, c := range []struct {
		a api.Vec
		s string
	}{
		{small(1, 0), "1'0"}, {small(1, 1), "1'1"}, {small(8, 0xff), "8'ff"}, {small(8, 10), "8'a"}, {small(9, 0x100), "9'100"},
		{api.Vec{W: 65, Hi: 1}, "65'1" + strings.Repeat("0", 16)}, {greatest(128), "128'" + strings.Repeat("f", 32)}, {small(128, 0), "128'0"},
		{api.Vec{}, ""}, {api.Vec{W: 129}, ""}, {api.Vec{W: 8, Lo: 0x100}, ""}, {api.Vec{W: -8}, ""},
	} {
		if s := vec.Text(c.a); s != c.s {
			t.Errorf("Text(%v) = %q; want %q", c.a, s, c.s)
		}
	}
}

func parses(t *testing.T, s string, want api.Vec) {
	t.Helper()
	v, e := vec.Parse(s)
	gives(t, v, e, want, "Parse", s)
}

func fails(t *testing.T, want api.Errno, l ...string) {
	t.Helper()
	for _, s := range l {
		v, e := vec.Parse(s)
		refuses(t, v, e, want, "Parse", strconv.Quote(s))
	}
}

func TestParse(t *testing.T) {
	each(func(a api.Vec) {
		w, n := strconv.Itoa(a.W), number(a).Text(16)
		for _, ahead := range []string{"", "0", "00"} {
			if len(ahead)+len(w) > 3 {
				continue
			}
			for _, behind := range []string{"", "0", "000", strings.Repeat("0", 200)} {
				parses(t, ahead+w+"'"+behind+n, a)
				parses(t, ahead+w+"'"+behind+strings.ToUpper(n), a)
			}
		}
	})
	parses(t, "8'fF", small(8, 0xff))
	parses(t, "008'0A", small(8, 10))
	parses(t, "001'000001", small(1, 1))
	parses(t, "48'AbCdEf012345", small(48, 0xabcdef012345))
	parses(t, "1'"+strings.Repeat("0", 100000), small(1, 0))
	parses(t, "128'"+strings.Repeat("0", 100000)+strings.Repeat("F", 32), greatest(128))
}

func TestParseOfOtherForms(t *testing.T) {
	fails(t, api.ErrForm,
		"", "'", "''", "8", "ff", "8ff", "8'", "'ff", "'0", "'", "128'", "0'", "999'",
		"0008'ff", "1000'0", "0001'1", "1280'0", "0000'0", "00000000000000000008'1", strings.Repeat("0", 100000)+"'1",
		"8'ff'", "8''ff", "8'f'f", "8'ff ", " 8'ff", "8 'ff", "8' ff", "8'ff\n", "8\"ff", "8`ff", "8’ff", "8'ff\x00", "\x008'1",
		"8'0xff", "0x8'ff", "8'-1", "-8'1", "+8'1", "8'+1", "8'1_0", "1_0'1", "8'fg", "8'G", "8'g", "a'1", "A'1", "f'f", "8f'1", "8.'1", "8'1.0",
		"٨'1", "８'1", "8'１", "8'é", "8'\xff", "\xff'1")
}

// Each byte there is, at each place of a text.
func TestParseOfBytes(t *testing.T) {
	for c := range 256 {
		b := string([]byte{byte(c)})
		if !strings.Contains("0123456789", b) {
			fails(t, api.ErrForm, b+"'1", b+"8'1", "8"+b+"'1")
			if b != "'" {
				fails(t, api.ErrForm, "1"+b+"8'1", "8"+b+"1")
			}
		}
		d := strings.Index("0123456789abcdef", strings.ToLower(b))
		if d < 0 {
			fails(t, api.ErrForm, "16'"+b, "16'"+b+"1", "16'1"+b, "16'1"+b+"1")
			continue
		}
		parses(t, "16'"+b, small(16, uint64(d)))
		parses(t, "16'"+b+"1", small(16, uint64(d*16+1)))
		parses(t, "16'1"+b, small(16, uint64(16+d)))
	}
}

// All that three digits say of a width.
func TestParseOfWidths(t *testing.T) {
	for w := range 1000 {
		for _, form := range []string{strconv.Itoa(w), ("00" + strconv.Itoa(w))[len(strconv.Itoa(w))-1:]} {
			if w < 1 || w > 128 {
				fails(t, api.ErrWidth, form+"'0", form+"'1", form+"'ff")
				continue
			}
			parses(t, form+"'0", small(w, 0))
			parses(t, form+"'1", small(w, 1))
		}
	}
}

func TestParseAtTheGreatestNumber(t *testing.T) {
	for w := 1; w <= 128; w++ {
		ahead := strconv.Itoa(w) + "'"
		parses(t, ahead+number(greatest(w)).Text(16), greatest(w))
		for k := range int64(20) {
			fails(t, api.ErrRange, ahead+new(big.Int).Add(power(w), big.NewInt(k)).Text(16))
		}
		for n := w; n < 300; n++ {
			fails(t, api.ErrRange, ahead+power(n).Text(16), ahead+"000"+new(big.Int).Add(power(n), one).Text(16))
		}
	}
	fails(t, api.ErrRange, "1'2", "1'f", "8'100", "64'1"+strings.Repeat("0", 16), "65'2"+strings.Repeat("0", 16),
		"128'1"+strings.Repeat("0", 32), "128'1"+strings.Repeat("0", 100000), "1'1"+strings.Repeat("0", 100000))
}

// The form is told before the width, and both before the number, be it one that no row holds.
func TestParseFaultsInTheirOrder(t *testing.T) {
	long := strings.Repeat("f", 200)
	fails(t, api.ErrForm, "0'g", "129'g", "999'", "0'", "0'-1", "0000'1", "0'1'", "8'100g", "8'"+long+"g", "8'g"+long, "129'"+long+"g", "0129'"+long, "129'"+long+"'")
	fails(t, api.ErrWidth, "0'1", "0'0", "00'0", "000'100", "0'"+long, "129'"+long, "129'1"+strings.Repeat("0", 33), "999'"+long, "130'1", "256'0")
	fails(t, api.ErrRange, "1'"+long, "128'"+long, "008'100")
}

// Promise 2.6.

func TestARowIsParsedOfItsText(t *testing.T) {
	each(func(a api.Vec) {
		parses(t, vec.Text(a), a)
		parses(t, strings.ToUpper(vec.Text(a)), a)
	})
	for w := 1; w <= 128; w++ {
		for _, a := range []api.Vec{small(w, 0), small(w, 1), greatest(w), row(w, power(w-1)), row(w, new(big.Int).SetUint64(math.MaxUint64))} {
			parses(t, vec.Text(a), a)
		}
	}
}

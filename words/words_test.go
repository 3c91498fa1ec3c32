package words

import (
	"fmt"
	"strings"
	"testing"

	"metaproof/api"
)

// told writes out all that a scanner tells of the data, up to its end or fault.
func told(data string) string {
	s := New(api.File{Name: "m", Data: data})
	var all []string
	for {
		item := s.Next()
		at := fmt.Sprintf("%d:%d", item.At.Line, item.At.Col)
		switch {
		case item.At.File != "m":
			return "another file: " + item.At.File
		case item.Rule != 0:
			return strings.Join(append(all, fmt.Sprintf("R%d@%s", item.Rule, at)), " ")
		case item.End:
			return strings.Join(append(all, "END@"+at), " ")
		}
		all = append(all, item.Text+"@"+at)
	}
}

func TestWords(t *testing.T) {
	for _, c := range []struct{ data, want string }{
		{"", "END@1:1"},
		{" ", "END@1:2"},
		{"\n", "END@2:1"},
		{"a", "a@1:1 END@1:2"},
		{"a\n", "a@1:1 END@2:1"},
		{"ab cd", "ab@1:1 cd@1:4 END@1:6"},
		{" \t\n\f\rx \n\ny", "x@2:3 y@4:1 END@4:2"},
		{"a\rb\fc\td", "a@1:1 b@1:3 c@1:5 d@1:7 END@1:8"},
		{"!~ $x$ $", "!~@1:1 $x$@1:4 $@1:8 END@1:9"},
		{"a\x00b", "R1@1:2"},
		{"\x80", "R1@1:1"},
		{"a \x0b", "a@1:1 R1@1:3"},
		{"a \x7fb", "a@1:1 R1@1:3"},
		{"ab\x80c\x81", "R1@1:3"},
		{"$(\x80 $)", "R1@1:3"},
		{"$x\n y\xff", "$x@1:1 R1@2:3"},
		{"$( $)", "END@1:6"},
		{"a $( b c $) d", "a@1:1 d@1:13 END@1:14"},
		{"$( a $) $( b $)\n$( $)x $)", "R2@2:4"},
		{"$( a $)$( b $)", "R2@1:6"},
		{"$( a $( b $) $)", "R2@1:6"},
		{"$( a$( $)", "R2@1:4"},
		{"$( $)a $)", "R2@1:4"},
		{"$( a$)b $)", "R2@1:4"},
		{"$( $$) $)", "R2@1:4"},
		{"$( $ ) ( $[ $] $c x$ $$ $) z", "z@1:28 END@1:29"},
		{"$( \x01 $)", "R1@1:4"},
		{"$( $(\x01 $)", "R1@1:6"},
		{"$( $( \x01 $)", "R2@1:4"},
		{"$( a", "R3@1:5"},
		{"$( a\n", "R3@2:1"},
		{"$(", "R3@1:3"},
		{"x $( $) $(", "x@1:1 R3@1:11"},
		{"$(x $) y", "$(x@1:1 $)@1:5 y@1:8 END@1:9"},
		{"x$( y", "x$(@1:1 y@1:5 END@1:6"},
		{"$) a", "$)@1:1 a@1:4 END@1:5"},
	} {
		if got := told(c.data); got != c.want {
			t.Errorf("P4: %q: %s, want %s", c.data, got, c.want)
		}
	}
}

func TestEveryByte(t *testing.T) {
	for b := 0; b < 256; b++ {
		data := "a" + string([]byte{byte(b)}) + "c"
		want := "R1@1:2"
		switch {
		case b == 10:
			want = "a@1:1 c@2:1 END@2:2"
		case b == 9 || b == 12 || b == 13 || b == 32:
			want = "a@1:1 c@1:3 END@1:4"
		case b >= 33 && b <= 126:
			want = data + "@1:1 END@1:4"
		}
		if got := told(data); got != want {
			t.Errorf("P4: %q: %s, want %s", data, got, want)
		}
	}
}

func TestEndStays(t *testing.T) {
	s := New(api.File{Name: "m", Data: "a "})
	s.Next()
	for i := 0; i < 3; i++ {
		if item := s.Next(); item != (Item{End: true, At: api.Place{File: "m", Line: 1, Col: 3}}) {
			t.Errorf("P4: at the end: %+v", item)
		}
	}
}

func TestHoldsDollar(t *testing.T) {
	for text, want := range map[string]bool{"": false, "a": false, "$": true, "$a": true, "a$": true, "a$b": true, "#%": false} {
		if got := HoldsDollar(text); got != want {
			t.Errorf("P6: HoldsDollar(%q) = %t", text, got)
		}
	}
}

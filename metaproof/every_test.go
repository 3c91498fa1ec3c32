package metaproof

import (
	"strings"
	"testing"

	"metaproof/api"
)

// dice is a plain sequence of numbers, the same at every run.
type dice uint32

func (d *dice) below(n int) int {
	*d = *d*1664525 + 1013904223
	return int(*d>>8) % n
}

// offset tells how many bytes stand ahead of a place, or -1 if the data has no such place.
func offset(data string, at api.Place) int {
	line, col := 1, 1
	for i := 0; i <= len(data); i++ {
		if line == at.Line && col == at.Col {
			return i
		}
		if i < len(data) && data[i] == '\n' {
			line, col = line+1, 0
		}
		col++
	}
	return -1
}

func verify(t *testing.T, data string) api.Fault {
	v := load(t, file("m", data), file("n", "$c n $."))
	f, e := v.Verify("m")
	if g, again := v.Verify("m"); f != g || e != again {
		t.Fatalf("P9: %q: %v, %d, and once more %v, %d", data, f, e, g, again)
	}
	if (f.Rule == 0) != (e == api.OK) || f.Rule != 0 && e != api.ErrFault || f.Rule == 0 && f != (api.Fault{}) {
		t.Fatalf("P9: %q: %v, %d", data, f, e)
	}
	return f
}

// checkFirst: what stands ahead of the first fault breaks no rule, and what stands behind it does not matter.
func checkFirst(t *testing.T, data string) {
	f := verify(t, data)
	if f.Rule == 0 || f.At.File != "m" {
		return
	}
	begin := offset(data, f.At)
	if begin < 0 {
		t.Fatalf("P8: %q: no such place: %v", data, f)
	}
	if f.Rule == api.REnd || f.Rule == api.ROpen {
		if begin != len(data) {
			t.Fatalf("P8: %q: %v is not at the end", data, f)
		}
		return
	}
	end := begin
	for end < len(data) && !strings.ContainsRune(" \t\n\f\r", rune(data[end])) {
		end++
	}
	if end == begin {
		t.Fatalf("P8: %q: no word at %v", data, f)
	}
	if g := verify(t, data[:end]); g != f {
		t.Fatalf("P8: %q: %v, but %v up to there", data, f, g)
	}
	if g := verify(t, data[:begin]); f.Rule != api.RByte && g.Rule != 0 && g.Rule != api.REnd && g.Rule != api.ROpen {
		t.Fatalf("P8: %q: %v, but ahead of it %v", data, f, g)
	}
	const behind = " \x00 $x"
	if end+len(behind) > api.MaxData {
		return
	}
	if g := verify(t, data[:end]+behind); g != f {
		t.Fatalf("P8: %q: %v, but %v with other words behind", data, f, g)
	}
}

func TestAllShortTexts(t *testing.T) {
	parts := strings.Fields("a x l $c $v $d $f $a $p $e $= $. ${ $} $( $) $[ n $]")
	texts := []string{""}
	for length := 0; length < 3; length++ {
		var longer []string
		for _, text := range texts {
			for _, part := range parts {
				longer = append(longer, text+part+" ")
			}
		}
		for _, text := range longer {
			checkFirst(t, text)
			checkFirst(t, "$c a $. $v x $. f $f a x $. "+text)
		}
		texts = longer
	}
}

func TestManyTexts(t *testing.T) {
	parts := strings.Split("a|b|x|y|l|k|$c|$v|$d|$f|$a|$p|$e|$=|$.|$.|$.|${|$}|$(|$)|$[|n|m|$]|\n|$c a b $.|$v x y $.|f $f a x $.|l $a a x $.|k $p a $=|\x80|?", "|")
	d := dice(1)
	for round := 0; round < 20000; round++ {
		var text strings.Builder
		for i := d.below(30); i > 0; i-- {
			text.WriteString(parts[d.below(len(parts))])
			if d.below(12) > 0 {
				text.WriteByte(' ')
			}
		}
		checkFirst(t, text.String())
	}
}

func TestManyBytes(t *testing.T) {
	const bytes = "$$$$(){}[].cvfeapd= \n\tax\x00\x7f\xff"
	d := dice(2)
	for round := 0; round < 5000; round++ {
		data := make([]byte, d.below(40))
		for i := range data {
			data[i] = bytes[d.below(len(bytes))]
		}
		checkFirst(t, string(data))
		v := New()
		v.Put(string(data), string(data))
		v.Load([]api.File{file(string(data), string(data)), file("m", "$[ "+string(data)+" $]")})
		v.Verify(string(data))
		v.Verify("m")
		v.Frame(string(data))
		v.Uses(string(data))
		v.Steps(string(data))
		v.Parse(string(data), string(data))
		v.Rows()
	}
}

func TestGreatest(t *testing.T) {
	for _, part := range []string{"${ ", "$( $) ", "a ", "$[ n $] ", "${ $} ", "\n", "$", "a", "$( "} {
		data := strings.Repeat(part, api.MaxData/len(part))
		checkFirst(t, data)
		checkFirst(t, strings.Repeat(" ", api.MaxData-len(data))+data)
	}
	blocks := strings.Repeat("${ ", api.MaxData/6) + strings.Repeat("$} ", api.MaxData/6)
	if f := verify(t, blocks); f.Rule != 0 {
		t.Errorf("P6: blocks within blocks: %v", f)
	}
}

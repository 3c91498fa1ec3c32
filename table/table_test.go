package table

import (
	"strings"
	"testing"

	"metaproof/api"
)

func file(name, data string) api.File { return api.File{Name: name, Data: data} }

var long = strings.Repeat("x", api.MaxData+1)

func TestNames(t *testing.T) {
	for b := 0; b < 256; b++ {
		name := "a" + string([]byte{byte(b)})
		want := api.ErrName
		if b >= 33 && b <= 126 && b != '$' {
			want = api.OK
		}
		var one, two Table
		if e := one.Put(name, ""); e != want {
			t.Errorf("P3: Put(%q) = %d, want %d", name, e, want)
		}
		if e := two.Load([]api.File{file(name, "")}); e != want {
			t.Errorf("P3: Load of %q = %d, want %d", name, e, want)
		}
	}
	for _, c := range []struct {
		name string
		want api.Errno
	}{{"", api.ErrName}, {"!", api.OK}, {"~", api.OK}, {"12345678", api.OK}, {"123456789", api.ErrName}, {"$", api.ErrName}} {
		var one Table
		if e := one.Put(c.name, ""); e != c.want {
			t.Errorf("P3: Put(%q) = %d, want %d", c.name, e, c.want)
		}
	}
}

func TestLoad(t *testing.T) {
	for i, c := range []struct {
		files []api.File
		want  api.Errno
	}{
		{nil, api.OK},
		{[]api.File{}, api.OK},
		{[]api.File{file("a", long[1:])}, api.OK},
		{[]api.File{file("a", long)}, api.ErrLong},
		{[]api.File{file("", long)}, api.ErrName},
		{[]api.File{file("a", ""), file("b", ""), file("c", ""), file("d", "")}, api.OK},
		{[]api.File{file("a", ""), file("b", ""), file("c", ""), file("d", ""), file("e", "")}, api.ErrMany},
		{[]api.File{file("", ""), file("b", long), file("c", ""), file("c", ""), file("", "")}, api.ErrMany},
		{[]api.File{file("a", ""), file("a", "")}, api.ErrTwice},
		{[]api.File{file("a", ""), file("b", ""), file("a", "x")}, api.ErrTwice},
		{[]api.File{file("a", ""), file("a", long)}, api.ErrLong},
		{[]api.File{file("a", ""), file("a", ""), file("", "")}, api.ErrTwice},
		{[]api.File{file("a", ""), file("b", long), file("a", "")}, api.ErrLong},
		{[]api.File{file("a", long), file("", "")}, api.ErrLong},
		{[]api.File{file("", ""), file("b", long)}, api.ErrName},
		{[]api.File{file("a", ""), file("A", "")}, api.OK},
	} {
		var table Table
		table.Put("old", "1")
		table.Put("older", "2")
		before := table
		if e := table.Load(c.files); e != c.want {
			t.Errorf("P3: case %d: Load = %d, want %d", i, e, c.want)
		}
		if c.want != api.OK {
			if table != before {
				t.Errorf("P1: case %d: a Load that was refused changed the table", i)
			}
			continue
		}
		want := Table{count: len(c.files)}
		copy(want.files[:], c.files)
		if table != want {
			t.Errorf("P3: case %d: the table is %.80v, want just the files", i, table)
		}
	}
}

func TestPut(t *testing.T) {
	var table Table
	for i, c := range []struct {
		name, data string
		want       api.Errno
	}{
		{"", "", api.ErrName}, {"", long, api.ErrName}, {"a", long, api.ErrLong}, {"a", long[1:], api.OK},
		{"b", "", api.OK}, {"c", "", api.OK}, {"d", "", api.OK},
		{"e", "", api.ErrMany}, {"e", long, api.ErrLong}, {"e$", "", api.ErrName}, {"d", long, api.ErrLong},
		{"d", "4", api.OK}, {"a", "1", api.OK}, {"f", "", api.ErrMany},
	} {
		before := table
		if e := table.Put(c.name, c.data); e != c.want {
			t.Errorf("P3: case %d: Put = %d, want %d", i, e, c.want)
		}
		if c.want != api.OK && table != before {
			t.Errorf("P1: case %d: a Put that was refused changed the table", i)
		}
	}
	want := Table{files: [api.MaxFiles]api.File{file("a", "1"), file("b", ""), file("c", ""), file("d", "4")}, count: 4}
	if table != want {
		t.Errorf("P3: the table is %.80v, want %v", table, want)
	}
}

func TestFind(t *testing.T) {
	var table Table
	if i := table.Find(""); i != -1 {
		t.Errorf("P3: the empty table has a file at %d", i)
	}
	table.Load([]api.File{file("a", "1"), file("b", "2")})
	for _, c := range []struct {
		name string
		want int
	}{{"a", 0}, {"b", 1}, {"", -1}, {"c", -1}, {"ab", -1}} {
		if i := table.Find(c.name); i != c.want {
			t.Errorf("P3: Find(%q) = %d, want %d", c.name, i, c.want)
		}
	}
	for _, i := range []int{-1, 2, 3, 4, 100} {
		if f := table.File(i); f != (api.File{}) {
			t.Errorf("P1: File(%d) = %v", i, f)
		}
	}
	if f := table.File(1); f != file("b", "2") {
		t.Errorf("P3: File(1) = %v", f)
	}
}

func TestCopy(t *testing.T) {
	var one Table
	one.Put("a", "1")
	two := one
	two.Put("a", "2")
	if f := one.File(0); f.Data != "1" {
		t.Errorf("P2: a table shows what was put into its copy")
	}
}

package mac

import (
	"bytes"
	"go/ast"
	"go/parser"
	"go/token"
	"testing"
)

// 'Ways': the pads are made at the first Tag, not earlier and not again.
func TestPadsAreMadeOnceAtTheFirstTag(t *testing.T) {
	var none [padSize]byte
	m := New([]byte("Jefe"))
	if m.inner != none || m.outer != none {
		t.Error("New has made the pads")
	}
	tag := m.Tag([]byte("x"))
	inner, outer := m.inner, m.outer
	for i := range none {
		k := byte(0)
		if i < 4 {
			k = "Jefe"[i]
		}
		if inner[i] != k^0x36 || outer[i] != k^0x5c {
			t.Errorf("the pads at %d are %02x and %02x", i, inner[i], outer[i])
		}
	}
	// A key that becomes another one behind the first Tag shows whether the
	// pads are made anew.
	m.key = []byte("another key")
	if m.Tag([]byte("x")) != tag || m.inner != inner || m.outer != outer {
		t.Error("a later Tag has made the pads anew")
	}
}

func TestEachMacHasAOnceOfItsOwn(t *testing.T) {
	x, y := New([]byte("x")), New([]byte("y"))
	x.Tag(nil)
	if y.inner != [padSize]byte{} {
		t.Error("the Tag of one Mac has made the pads of another")
	}
	y.Tag(nil)
	if x.inner == y.inner || y.inner[0] != 'y'^0x36 {
		t.Error("the second Mac has not made its own pads")
	}
}

// P3.1: the copy is taken by New, since the pads are made only later.
func TestNewCopiesTheKey(t *testing.T) {
	for _, n := range []int{0, 1, 63, 64, 65, 200} {
		own := bytes.Repeat([]byte{7}, n)
		m := New(own)
		clear(own)
		if !bytes.Equal(m.key, bytes.Repeat([]byte{7}, n)) {
			t.Errorf("the key of %d bytes has changed with its owner's bytes", n)
		}
		m.Tag([]byte("x"))
		if !bytes.Equal(m.key, bytes.Repeat([]byte{7}, n)) {
			t.Errorf("Tag has changed the key of %d bytes", n)
		}
	}
}

// P3.3: an answer alone cannot show that Equal goes on behind a byte that
// differs, and its time is too short to be measured reliably. So its text is
// read: one loop, and nothing in it or beside it that could leave it early.
func TestEqualHasNoBranchOnTheBytes(t *testing.T) {
	file, err := parser.ParseFile(token.NewFileSet(), "mac.go", nil, 0)
	if err != nil {
		t.Fatal(err)
	}
	body := bodyOf(t, file, "Equal")
	loops, returns := 0, 0
	ast.Inspect(body, func(n ast.Node) bool {
		switch n := n.(type) {
		case *ast.RangeStmt, *ast.ForStmt:
			loops++
		case *ast.ReturnStmt:
			returns++
		case *ast.IfStmt, *ast.SwitchStmt, *ast.BranchStmt, *ast.CallExpr, *ast.DeferStmt:
			t.Errorf("Equal holds a %T", n)
		case *ast.BinaryExpr:
			checkOperator(t, n)
		}
		return true
	})
	_, atTheEnd := body.List[len(body.List)-1].(*ast.ReturnStmt)
	if loops != 1 || returns != 1 || !atTheEnd {
		t.Errorf("Equal holds %d loops and %d returns", loops, returns)
	}
}

func bodyOf(t *testing.T, file *ast.File, name string) *ast.BlockStmt {
	t.Helper()
	for _, d := range file.Decls {
		if f, ok := d.(*ast.FuncDecl); ok && f.Name.Name == name {
			return f.Body
		}
	}
	t.Fatalf("there is no %s", name)
	return nil
}

// checkOperator refuses what skips its right side, and a comparison of more
// than a gathered difference with 0.
func checkOperator(t *testing.T, e *ast.BinaryExpr) {
	t.Helper()
	switch e.Op {
	case token.LAND, token.LOR, token.NEQ:
		t.Errorf("Equal holds a %s", e.Op)
	case token.EQL:
		if zero, ok := e.Y.(*ast.BasicLit); !ok || zero.Value != "0" {
			t.Errorf("Equal compares with something other than 0")
		}
	}
}

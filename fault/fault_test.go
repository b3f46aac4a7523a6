package fault

import (
	"errors"
	"testing"

	"skein/api"
)

func TestNoFault(t *testing.T) {
	if In("Ref", nil) != nil || Refuse(api.ErrOp, nil) != nil || Number(nil) != api.OK {
		t.Error("no fault became one")
	}
}

func TestWrapped(t *testing.T) {
	err := In("Ops", Refuse(api.ErrOp, In("Ref", Own)))
	if err.Error() != "Ops: Ref: names itself" {
		t.Errorf("the text: %s", err)
	}
	if !errors.Is(err, Own) || errors.Is(err, Bounds) {
		t.Error("the cause is not to be found")
	}
	var m *Met
	if !errors.As(err, &m) || m.Part != "Ops" {
		t.Error("the part is not to be found")
	}
	if Number(err) != api.ErrOp {
		t.Errorf("the number: %d", Number(err))
	}
	if n := Number(Refuse(api.ErrFrame, err)); n != api.ErrFrame {
		t.Errorf("who has wrapped it last has not the word: %d", n)
	}
	if n := Number(In("Kind", Short)); n != api.ErrFrame {
		t.Errorf("the number of what was met in bytes: %d", n)
	}
}

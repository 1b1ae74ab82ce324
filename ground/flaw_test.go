package ground_test

import (
	"testing"

	"shunter/ground"
	"shunter/image"
)

func TestFlawsBreakEachPart(t *testing.T) {
	parts := map[int]bool{}
	for i, in := range ground.Flaws() {
		err := image.Check(ground.Changed(in))
		if err == nil {
			t.Errorf("no flaw: %d", i)
		}
		part, _, _ := image.Why(err)
		parts[part] = true
	}
	for part := range 15 {
		if !parts[part] {
			t.Errorf("no flaw in the part %d", part)
		}
	}
}

package side

import (
	"fmt"
	"reflect"
	"strings"
	"testing"

	"sealstream/api"
	"sealstream/seal"
)

// TestLostPacketsAreForgotten: when what they carried came by others.
func TestLostPacketsAreForgotten(t *testing.T) {
	s, _ := New(api.Config{MTU: 64, Window: 16}, api.Key{}, true)
	s.Write(0, []byte("abc"))
	s.Packets()
	for range 4 {
		s.Tick()
	}
	s.Packets()
	keeps := func(want bool) {
		t.Helper()
		if told := fmt.Sprintf("%+v", s.flight); strings.Contains(told, "lost:[]") == want {
			t.Errorf("kept is %s", told)
		}
	}
	keeps(true)
	ack := bytesOf(api.Frame{Kind: api.Ack, Ranges: []api.Range{{Lo: 1, Hi: 1}}})
	if err := s.Receive(seal.Seal(api.Key{}, false, 0, ack)); err != nil {
		t.Fatal(err)
	}
	keeps(false)
}

// TestWhatAClosedSideKeeps: why, and its last packet until that is sent.
func TestWhatAClosedSideKeeps(t *testing.T) {
	s, _ := New(api.Config{MTU: 64, Window: 16}, api.Key{1}, true)
	s.Write(0, []byte("abc"))
	s.Packets()
	s.Close(5)
	s.Packets()
	if want := (Side{why: api.ErrClosed}); !reflect.DeepEqual(*s, want) {
		t.Errorf("kept is %+v", *s)
	}
}

// Package serve does a side's calls as commands name them (P20).
package serve

import (
	"sealstream/api"
	"sealstream/side"
)

// calls is what each command does, by its name.
type calls map[int]func(q api.Command) api.Answer

// Answers does the commands one behind the other, each when the one ahead is answered. It does not wait for them.
func Answers(s *side.Side, commands <-chan api.Command) <-chan api.Answer {
	answers := make(chan api.Answer)
	go func() {
		answerAll(s, commands, answers)
		close(answers)
	}()
	return answers
}

func answerAll(s *side.Side, commands <-chan api.Command, answers chan<- api.Answer) {
	if commands == nil { // none ever comes: to wait would be without end
		return
	}
	c := callsOf(s)
	for q := range commands {
		answers <- c.answer(q)
	}
}

// answer of a command of no such name is empty.
func (c calls) answer(q api.Command) api.Answer {
	do, ok := c[q.Op]
	if !ok {
		return api.Answer{}
	}
	return do(q)
}

func callsOf(s *side.Side) calls {
	return calls{
		api.Write: func(q api.Command) api.Answer {
			n, err := s.Write(q.Stream, []byte(q.Data))
			return api.Answer{Err: err, N: n}
		},
		api.Finish: func(q api.Command) api.Answer { return api.Answer{Err: s.Finish(q.Stream)} },
		api.GiveUp: func(q api.Command) api.Answer { return api.Answer{Err: s.GiveUp(q.Stream, q.Code)} },
		api.Tick: func(api.Command) api.Answer {
			s.Tick()
			return api.Answer{}
		},
		api.Packets: func(api.Command) api.Answer { return api.Answer{Packets: texts(s.Packets())} },
		api.Receive: func(q api.Command) api.Answer { return api.Answer{Err: s.Receive([]byte(q.Data))} },
		api.Read: func(q api.Command) api.Answer {
			b, state, code, err := s.Read(q.Stream, q.N)
			return api.Answer{Err: err, N: state, Code: code, Data: string(b)}
		},
		api.Leave: func(q api.Command) api.Answer { return api.Answer{Err: s.Close(q.Code)} },
		api.Came: func(q api.Command) api.Answer {
			n, err := s.Came(q.Stream)
			return api.Answer{Err: err, N: n}
		},
	}
}

func texts(l [][]byte) []string {
	var out []string
	for _, p := range l {
		out = append(out, string(p))
	}
	return out
}

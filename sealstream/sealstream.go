// Package sealstream: streams of bytes between two sides, in sealed packets: see DOC.md.
package sealstream

import (
	"sealstream/api"
	"sealstream/frame"
	"sealstream/seal"
	"sealstream/serve"
	"sealstream/side"
	"sealstream/siphash"
)

// Encode writes frames (P3, P4).
func Encode(l []api.Frame) ([]byte, error) { return frame.Encode(l) }

// Decode reads frames (P5).
func Decode(b []byte) ([]api.Frame, error) { return frame.Decode(b) }

// Hash is SipHash-2-4 (P6).
func Hash(key api.Key, b []byte) uint64 { return siphash.Sum(key, b) }

// Seal seals a packet (P7).
func Seal(key api.Key, first bool, number uint64, b []byte) []byte {
	return seal.Seal(key, first, number, b)
}

// Unseal opens one (P7).
func Unseal(key api.Key, first bool, p []byte) (uint64, []byte, error) {
	return seal.Unseal(key, first, p)
}

// Conn is one side of a connection.
type Conn struct {
	side *side.Side
}

// New makes a side (P8).
func New(c api.Config, key api.Key, first bool) (*Conn, error) {
	s, err := side.New(c, key, first)
	if err != nil {
		return nil, err
	}
	return &Conn{s}, nil
}

// within is the side, or nil, which answers too: no call panics, not even that of a Conn that New did not make.
func (c *Conn) within() *side.Side {
	if c == nil {
		return nil
	}
	return c.side
}

// Write: a stream goes on, as far as there is room (P9).
func (c *Conn) Write(k int, b []byte) (int, error) { return c.within().Write(k, b) }

// Finish: a stream ends (P9).
func (c *Conn) Finish(k int) error { return c.within().Finish(k) }

// GiveUp: a stream is given up (P18).
func (c *Conn) GiveUp(k int, code uint64) error { return c.within().GiveUp(k, code) }

// Came: how many bytes of a stream came from its beginning on (P9).
func (c *Conn) Came(k int) (int, error) { return c.within().Came(k) }

// Tick: a tick has passed (P8).
func (c *Conn) Tick() { c.within().Tick() }

// Packets: what is to be sent now (P10, P11, P19).
func (c *Conn) Packets() [][]byte { return c.within().Packets() }

// Receive: a packet came (P12 to P14, P18, P19).
func (c *Conn) Receive(p []byte) error { return c.within().Receive(p) }

// Read: bytes of a stream that came, its state, and with which code it was given up (P15, P18).
func (c *Conn) Read(k int, most int) ([]byte, int, uint64, error) { return c.within().Read(k, most) }

// Close ends it (P19).
func (c *Conn) Close(code uint64) error { return c.within().Close(code) }

// Err: why it is closed (P19).
func (c *Conn) Err() error { return c.within().Err() }

// Serve does commands as they come, each with an answer, until there are no more (P20).
func Serve(c *Conn, commands <-chan api.Command) <-chan api.Answer {
	return serve.Answers(c.within(), commands)
}

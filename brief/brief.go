// Package brief: what is told whole if it is short enough, and else as `...`.
package brief

const tooLong = "..."

// Writer takes bytes until there are more than its limit. Who writes to it stops once it is full, and so ends soon, whatever the size of the thing that is told.
type Writer struct {
	limit int
	told  []byte
}

// NewWriter makes a writer that tells at most limit bytes.
func NewWriter(limit int) *Writer { return &Writer{limit: limit} }

// Put writes the bytes behind those that were written.
func (w *Writer) Put(bytes string) {
	if !w.Full() {
		w.told = append(w.told, bytes...)
	}
}

// Full tells whether there are too many bytes.
func (w *Writer) Full() bool { return len(w.told) > w.limit }

// Told tells what was written.
func (w *Writer) Told() string {
	if w.Full() {
		return tooLong
	}
	return string(w.told)
}

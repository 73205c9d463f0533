package image

import "analemma/api"

// mark is how each image begins: what it is, and which kind of it.
const mark = "ANLM\x01"

// dstMark stands in one byte with a number of letters, which is far below it.
const dstMark = 128

// number is one that has so many bytes.
type number struct{ bytes, value int }

// laid asks of a table just that its name and all letters fit.
func laid(t api.Table) string {
	b := make([]byte, 0, size(len(t.Changes)+len(t.Tail)))
	b = append(b, mark...)
	b = lay(b, number{1, len(t.Name)})
	b = layText(b, t.Name, api.MaxName)
	b = layTriple(b, t.Base)
	b = lay(b, number{4, t.Last}, number{8, t.First}, number{2, len(t.Changes)}, number{2, len(t.Tail)})
	b = layChanges(b, t.Changes)
	b = layChanges(b, t.Tail)
	return string(b)
}

func layChanges(b []byte, l []api.Change) []byte {
	for _, c := range l {
		b = lay(b, number{8, c.Sec})
		b = layTriple(b, c.Triple)
	}
	return b
}

func layTriple(b []byte, t api.Triple) []byte {
	letters := len(t.Abbr)
	if t.Dst {
		letters += dstMark
	}
	b = lay(b, number{4, t.Offset}, number{1, letters})
	return layText(b, t.Abbr, api.MaxAbbr)
}

// layText fills its place up with 0s.
func layText(b []byte, text string, place int) []byte {
	b = append(b, text...)
	return append(b, make([]byte, place-len(text))...)
}

// lay takes numbers below 0 as they are: an int is two's complement already.
func lay(b []byte, numbers ...number) []byte {
	for _, n := range numbers {
		for behind := n.bytes - 1; behind >= 0; behind-- {
			b = append(b, byte(n.value>>(8*behind)))
		}
	}
	return b
}

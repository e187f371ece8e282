package raw

import (
	"math/bits"

	"graver/api"
	"graver/class"
	"graver/ehdr"
	"graver/phdr"
	"graver/shdr"
)

const (
	identSize = 16     // the bytes of the ident, which the header follows
	elsewhere = 0xffff // a number of the header that the first section header has instead
)

// parser of a file: what is known of it so far, and all its bytes.
type parser struct {
	File
	text string
}

// Parse returns the file whose bytes are s.
func Parse(s string) (File, api.Errno) {
	p := parser{text: s}
	checks := [...]func() api.Errno{
		func() api.Errno {
			if len(s) > api.MaxFile {
				return api.ErrLong
			}
			return api.OK
		},
		p.readHeader,
		p.readSections,
		p.readSegments,
		p.checkSections,
		p.checkSegments,
	}
	for _, check := range checks {
		if e := check(); e != api.OK {
			return File{}, e
		}
	}
	return p.File, api.OK
}

func (p *parser) readHeader() api.Errno {
	id, e := class.Read(p.text)
	if e != api.OK {
		return e
	}
	h, ok := ehdr.Read(id.Form, p.text[identSize:])
	if !ok {
		return api.ErrShort
	}
	p.Ident, p.Header = id, h
	return h.Check(p.Form)
}

// readSections reads the table of section headers, and finds out which section
// is the table of names.
func (p *parser) readSections() api.Errno {
	if p.Header.Shoff == 0 {
		return p.checkNoSections()
	}
	// The first one is read alone: it may have the number of all.
	first, ok := records(p.Form, p.text, p.sectionTable(1), shdr.Read)
	if !ok {
		return api.ErrRange
	}
	n := p.Header.Shnum
	if n == 0 {
		n = first[0].Size
	}
	if n == 0 || n > api.MaxSections {
		return api.ErrCount
	}
	if p.Sections, ok = records(p.Form, p.text, p.sectionTable(n), shdr.Read); !ok {
		return api.ErrRange
	}
	if first[0].Type != shdr.Null {
		return api.ErrType
	}
	p.Names = p.Header.Shstrndx
	if p.Names == elsewhere {
		p.Names = first[0].Link
	}
	if p.Names >= n {
		return api.ErrIndex
	}
	return api.OK
}

func (p *parser) checkNoSections() api.Errno {
	if p.Header.Shnum != 0 {
		return api.ErrCount
	}
	if p.Header.Shstrndx != 0 {
		return api.ErrIndex
	}
	return api.OK
}

// readSegments reads the table of segment headers. The sections have been read:
// the first one may have the number of segments.
func (p *parser) readSegments() api.Errno {
	n := p.Header.Phnum
	if n == elsewhere && len(p.Sections) > 0 {
		n = p.Sections[0].Info
	}
	if n > api.MaxSegments || n > 0 && p.Header.Phoff == 0 {
		return api.ErrCount
	}
	var ok bool
	if p.Segments, ok = records(p.Form, p.text, p.segmentTable(n), phdr.Read); !ok {
		return api.ErrRange
	}
	return api.OK
}

func (p *parser) checkSections() api.Errno {
	for _, x := range p.Sections {
		if bits.OnesCount64(x.Align) > 1 {
			return api.ErrAlign
		}
		if HasData(x) && !data(x).In(uint64(len(p.text))) {
			return api.ErrRange
		}
	}
	return api.OK
}

func (p *parser) checkSegments() api.Errno {
	for _, x := range p.Segments {
		if !image(x).In(uint64(len(p.text))) {
			return api.ErrRange
		}
	}
	return api.OK
}

package season

import (
	"lagan/api"
	"lagan/bearing"
	"lagan/bell"
	"lagan/drag"
	"lagan/finds"
	"lagan/hull"
	"lagan/mooring"
	"lagan/slack"
	"lagan/stint"
	"lagan/tackle"
)

const (
	layerCount = 9 // parts that are books of layers; they come first
	partCount  = 10
)

// part is a part of a book; a file has one after the other.
type part interface {
	word() string
	check() api.Hitch
	count() int // its cases
	print() string
	read(text string) (p part, line int, h api.Hitch)
}

// volume is a part with a book of a chapter, and that chapter's functions.
type volume[B any] struct {
	name      string
	book      B
	checkBook func(B) api.Hitch
	cases     func(B) (int, api.Hitch)
	printBook func(B) (string, api.Hitch)
	parse     func(text string) (b B, line int, h api.Hitch)
}

func (v volume[B]) word() string { return v.name }

func (v volume[B]) check() api.Hitch { return v.checkBook(v.book) }

func (v volume[B]) count() int {
	many, _ := v.cases(v.book)
	return many
}

func (v volume[B]) print() string {
	text, _ := v.printBook(v.book)
	return text
}

// read returns the part that a text has.
func (v volume[B]) read(text string) (p part, line int, h api.Hitch) {
	v.book, line, h = v.parse(text)
	return v, line, h
}

// parts returns the parts of a book, in order.
func (b book) parts() [partCount]part {
	return [...]part{
		volume[api.BearingChart]{"bearing", b.Chart, bearing.CheckChart, bearing.Cases, bearing.Print, bearing.Parse},
		volume[api.DragBook]{"drag", b.Drag, drag.CheckBook, drag.Cases, drag.Print, drag.Parse},
		volume[api.SlackBook]{"slack", b.Slack, slack.CheckBook, slack.Cases, slack.Print, slack.Parse},
		volume[api.BellBook]{"bell", b.Bell, bell.CheckBook, bell.Cases, bell.Print, bell.Parse},
		volume[api.StintBook]{"stint", b.Stint, stint.CheckBook, stint.Cases, stint.Print, stint.Parse},
		volume[api.HullBook]{"hull", b.Hull, hull.CheckBook, hull.Cases, hull.Print, hull.Parse},
		volume[api.TackleBook]{"tackle", b.Tackle, tackle.CheckBook, tackle.Cases, tackle.Print, tackle.Parse},
		volume[api.MooringBook]{"mooring", b.Mooring, mooring.CheckBook, mooring.Cases, mooring.Print, mooring.Parse},
		volume[api.FindsBook]{"finds", b.Finds, finds.CheckBook, finds.Cases, finds.Print, finds.Parse},
		volume[api.SeasonAward]{awardWord, b.Award, checkAward, noCases, printAward, parseAward},
	}
}

// noCases stands for the cases of an award, which has none.
func noCases(api.SeasonAward) (int, api.Hitch) { return 0, api.Smooth }

// with returns a book that has a part.
func (b book) with(p part) book {
	switch x := p.(type) {
	case volume[api.BearingChart]:
		b.Chart = x.book
	case volume[api.DragBook]:
		b.Drag = x.book
	case volume[api.SlackBook]:
		b.Slack = x.book
	case volume[api.BellBook]:
		b.Bell = x.book
	case volume[api.StintBook]:
		b.Stint = x.book
	case volume[api.HullBook]:
		b.Hull = x.book
	case volume[api.TackleBook]:
		b.Tackle = x.book
	case volume[api.MooringBook]:
		b.Mooring = x.book
	case volume[api.FindsBook]:
		b.Finds = x.book
	case volume[api.SeasonAward]:
		b.Award = x.book
	}
	return b
}

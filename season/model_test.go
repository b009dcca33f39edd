package season_test

import (
	"fmt"
	"slices"
	"strconv"
	"strings"

	"lagan/api"
	"lagan/bearing"
	"lagan/bell"
	"lagan/drag"
	"lagan/finds"
	"lagan/hull"
	"lagan/model"
	"lagan/mooring"
	"lagan/slack"
	"lagan/stint"
	"lagan/tackle"
)

// The model is a second, slow way to reckon what package season tells: it plays a journal all anew for each entry, deals out farthing by farthing, goes through all cases of all books, and writes down all proofs that there can be.

const (
	smooth = api.Smooth
	surely = api.Surely
	layers = 9  // parts that are books of layers
	all    = 10 // parts
)

func reach(least, most int) api.Reach { return api.Reach{Least: least, Most: most} }

func one(n int) api.Reach { return reach(n, n) }

func man(name string, shares int) api.SeasonMan { return api.SeasonMan{Name: name, Shares: shares} }

// partWords returns the words of the parts, in order.
func partWords() []string {
	return []string{"bearing", "drag", "slack", "bell", "stint", "hull", "tackle", "mooring", "finds", "award"}
}

// pool has texts of books of each layer: first that of the book Y, then others, some with one case or with none.
func pool() [layers][]string {
	return [layers][]string{
		{
			"chart 3 3 1\ncompass 0\ncompass 0:1\nwitness -1 0 e 0 maybe\nwitness 0 3 s 1 maybe\nwitness 2 -1 n 0 maybe\n",
			"chart 2 2 0\ncompass 0\n",
			"chart 2 2 0\ncompass 0\nwitness -1 0 e 0 sure\nwitness 0 -1 n 0 maybe\n",
			"chart 2 2 0\ncompass 0\nwitness -1 0 e 0 sure\nwitness -1 0 w 0 maybe\n",
			"chart 2 4 2\ncompass -1:1\nwitness -1 0 e 0 sure\nwitness 1 4 s 0 maybe\nwitness 0 -2 nw 0 maybe\nwitness 5 5 sw 0 maybe\nwitness -3 1 ne 0 maybe\n",
		},
		{
			"drag 3 3 1\nground sss\nground smm\nground s?s\nrock 0 0\nline 0:1 1:2 0:1 touched\nline 1:2 0 0 free\n",
			"drag 1 2 0\nground sm\n",
			"drag 2 2 0\nground s?\nground ?m\nlead 0 0 iron\n",
			"drag 1 2 0\nground ss\nline 0 0 0 free\n",
			"drag 1 2 0\nground ss\nline 0 0 0 touched\nlead 0 0 sand\n",
		},
		{
			"slack 0:1 0\nturn 40 2:3\nturn 70 1\nwatch 43 yes\n",
			"slack 0 0\nturn 40 2\n",
			"slack -1:1 -1:1\nturn 40 0:2\nturn 60 0:1\nwatch 39 yes\nwatch 45 no\n",
			"slack 0 0\nturn 40 2\nwatch 50 yes\n",
		},
		{
			"bell 30 33 9 5\nair 2 0:1 20 2 3 1:2 -\nman ann 3:4\nman bo 4\n",
			"bell 30 33 9 5\nair 2 0:1 20 2 3 1:2 1\nman ann 3:4\nman bo 4\n",
			"bell 30 33 9 5\nair 2 0:1 20 2 3 1:2 -\nman ann 3:4\nman bo 4\nmark 1 11\n",
			"bell 30 33 9 5\nair 2 0 20 3 3 1:2 2\nman ann 3\nmark 1 10:30\n",
			"bell 30 33 9 5\nair 2 0:1 20 2 3 1:2 -\nman ann 3:4\nman bo 4\nmark 1 30\n",
			"bell 20 0 1 2\nair 1 0 5 1 0 1 -\n",
		},
		{
			"stint 10\nrow 10 40\nrow 20 20\nplace 9:11\nplace 15\nman ann 20\nman bo 12\ndive 0 0 20 2\ndive 1 30 15 1\ndive 0 60 30 1\n",
			"stint 10\nrow 10 40\nrow 20 20\nplace 9:11\nplace 15\nman ann 20\nman bo 12\ndive 0 0 20 2\ndive 1 30 15 1\ndive 0 60 30 1\nsounding 0 10 yes\n",
			"stint 0\nrow 12 40\nplace 9:10\nman ann 20\nman bo 12\nman cy 9\ndive 0 0 20 1\ndive 0 10 20 2\n",
			"stint 10\nrow 10 40\nplace 9:11\nman ann 20\ndive 0 0 20 1\nsounding 0 8 yes\n",
		},
		{
			"hull 62 0 -\npiece gun -3 20:21 -\npiece chest 2 30 -\npiece anchor 1 10 0\n",
			"hull 62 0 2\npiece gun -3 20:21 -\npiece chest 2 30 -\npiece anchor 1 10 0\nheel 1 upright\n",
			"hull 9999 -1:1 -\npiece gun -3 20:21 -\npiece chest 2 30:31 0\nheel 0 upright\n",
			"hull 90 0 -\npiece a 1 1:3 -\npiece b -1 1:2 -\npiece c 2 10 0,1\npiece d -2 9:10 -\n",
			"hull 0 0 0\npiece gun 1 5 -\n",
			"hull 9 0 0\npiece gun 1 5 -\n",
			"hull 50 0 -\npiece gun -3 20:21 -\npiece chest 2 30 -\npiece anchor 1 10 0\n",
		},
		{
			"tackle 9\npart sling 0 30\npart luff 2 20:22\npart rope 0 9\ngear 0,1,2\ngear 0,2\npiece chest 19:21\npiece bar 8\n",
			"tackle 9\npart sling 0 30\npart luff 2 20:22\npart rope 0 9\ngear 0,1,2\ngear 0,2\npiece chest 19:21\npiece bar 8\ntest 0 21 held\n",
			"tackle 50\npart a 0 20\ngear 0\npiece b 10\n",
			"tackle 50\npart a 0 20:22\npart b 1 10:12\ngear 1,0\ngear 0\ngear 1\npiece b 21:22\npiece c 5\ntest 1 21 held\n",
			"tackle 50\npart a 0 20\ngear 0\npiece b 10\ntest 0 21 held\n",
		},
		{
			"mooring 5 30:31 24 40\nanchor 2 2 sand 40 20\nanchor -4 2 mud 25 12\nanchor 0 -3 rock 30 30\nwind n 30:32\nwind s 30\n",
			"mooring 5 30 24 40\nanchor 2 2 sand 40 20\nwind ne 20\n",
			"mooring 5 30:31 24:26 40\nanchor 0 1 sand 40 20\nwind n 24:26\nnight 0 rode\n",
			"mooring 5 30 24 40\nanchor 2 2 sand 40 20\nwind ne 20\nnight 0 dragged\n",
		},
		{
			"finds 1\nline 0 ab 2\nline 0 ac 1\nline 1 ab 1\nfind a?\nfind ?b\nfind ac\nnote 0 1 same\n",
			"finds 0\nline 0 ab 2\nline 2 cd 1\nfind ab\nfind c?\n",
			"finds 2\nline 1 a 1\n",
			"finds 0\nline 0 a 1\nfind b\n",
			"finds 3\nline 0 ab 1\nline 1 a 3\nline 2 cb 2\nfind ??\nfind ?\nfind ?b\n",
		},
	}
}

// awards has awards: first that of the book Y, then others.
func awards() []api.SeasonAward {
	return []api.SeasonAward{
		{Value: reach(100, 101), Crown: 10, Owner: 20, Men: []api.SeasonMan{man("ann", 2), man("bo", 1), man("cy", 1)}},
		{},
		{Value: reach(99995, 99999), Crown: 33, Owner: 50, Men: []api.SeasonMan{man("a", 9), man("b", 0), man("c", 7), man("d", 1)}},
		{Value: reach(12, 13), Men: []api.SeasonMan{man("a", 1), man("d", 1), man("b", 4), man("c", 4)}},
		{Value: one(7), Crown: 100, Owner: 100, Men: []api.SeasonMan{man("a", 0)}},
		{Value: reach(99, 103), Crown: 1, Owner: 99, Men: []api.SeasonMan{man("z9", 3), man("y", 3)}},
	}
}

// withText returns the book that has the part of a layer that a text has.
func withText(b api.SeasonBook, part int, text string) (api.SeasonBook, int, api.Hitch) {
	var line int
	var h api.Hitch
	switch part {
	case 0:
		b.Chart, line, h = bearing.Parse(text)
	case 1:
		b.Drag, line, h = drag.Parse(text)
	case 2:
		b.Slack, line, h = slack.Parse(text)
	case 3:
		b.Bell, line, h = bell.Parse(text)
	case 4:
		b.Stint, line, h = stint.Parse(text)
	case 5:
		b.Hull, line, h = hull.Parse(text)
	case 6:
		b.Tackle, line, h = tackle.Parse(text)
	case 7:
		b.Mooring, line, h = mooring.Parse(text)
	case 8:
		b.Finds, line, h = finds.Parse(text)
	}
	return b, line, h
}

// chosen returns the book of which each part is chosen by its index in the pool, or of the awards.
func chosen(choice [all]int) api.SeasonBook {
	var b api.SeasonBook
	for part, texts := range pool() {
		b, _, _ = withText(b, part, texts[choice[part]])
	}
	b.Award = awards()[choice[layers]]
	return b
}

// bookY is the book Y of the chapter.
func bookY() api.SeasonBook { return chosen([all]int{}) }

// changed returns Y with a change.
func changed(change func(b *api.SeasonBook)) api.SeasonBook {
	b := bookY()
	change(&b)
	return b
}

// awarded returns Y with another award.
func awarded(a api.SeasonAward) api.SeasonBook {
	return changed(func(b *api.SeasonBook) { b.Award = a })
}

func equal(a, b api.SeasonBook) bool { return fmt.Sprint(a) == fmt.Sprint(b) }

func isZero(b api.SeasonBook) bool { return equal(b, api.SeasonBook{}) }

func awardText(a api.SeasonAward) string {
	text := fmt.Sprintf("award %s %d %d\n", reachText(a.Value), a.Crown, a.Owner)
	for _, m := range a.Men {
		text += fmt.Sprintf("man %s %d\n", m.Name, m.Shares)
	}
	return text
}

func reachText(r api.Reach) string {
	if r.Least == r.Most {
		return fmt.Sprint(r.Least)
	}
	return fmt.Sprintf("%d:%d", r.Least, r.Most)
}

// textsOf returns the texts of the parts of a book.
func textsOf(b api.SeasonBook) []string {
	prints := []func() (string, api.Hitch){
		func() (string, api.Hitch) { return bearing.Print(b.Chart) },
		func() (string, api.Hitch) { return drag.Print(b.Drag) },
		func() (string, api.Hitch) { return slack.Print(b.Slack) },
		func() (string, api.Hitch) { return bell.Print(b.Bell) },
		func() (string, api.Hitch) { return stint.Print(b.Stint) },
		func() (string, api.Hitch) { return hull.Print(b.Hull) },
		func() (string, api.Hitch) { return tackle.Print(b.Tackle) },
		func() (string, api.Hitch) { return mooring.Print(b.Mooring) },
		func() (string, api.Hitch) { return finds.Print(b.Finds) },
	}
	var texts []string
	for _, print := range prints {
		text, _ := print()
		texts = append(texts, text)
	}
	return append(texts, awardText(b.Award))
}

// modelSum reckons a sum from the last byte on, with what each byte counts.
func modelSum(s string) int {
	n, counts := 0, 1
	for i := len(s) - 1; i >= 0; i-- {
		n = (n + int(s[i])*counts) % 9973
		counts = counts * 31 % 9973
	}
	return (n + counts) % 9973
}

// fileOf returns the file that has texts.
func fileOf(texts []string) string {
	file := ""
	for i, text := range texts {
		file += fmt.Sprintf("begin %s\n%send %s %d\n", partWords()[i], text, partWords()[i], modelSum(text))
	}
	return file
}

// modelRead reads a file with one look ahead for each part.
func modelRead(file string) (b api.SeasonBook, line int, h api.Hitch) {
	var lines []string
	if file != "" {
		lines = strings.Split(strings.TrimSuffix(file, "\n"), "\n")
	}
	number := 1
	for part, word := range partWords() {
		if len(lines) == 0 || lines[0] != "begin "+word {
			return api.SeasonBook{}, number, api.Shape
		}
		text, inside := "", 1
		for inside < len(lines) && strings.Split(lines[inside], " ")[0] != "end" {
			text += lines[inside] + "\n"
			inside++
		}
		if inside == len(lines) {
			return api.SeasonBook{}, number + inside, api.Shape
		}
		told, isTold := strings.CutPrefix(lines[inside], "end "+word+" ")
		if sum, ok := modelNumber(told); !isTold || !ok {
			return api.SeasonBook{}, number + inside, api.Shape
		} else if sum != modelSum(text) {
			return api.SeasonBook{}, number + inside, api.Adrift
		}
		var wrong int
		if b, wrong, h = modelPart(b, part, text); h != smooth {
			return api.SeasonBook{}, number + wrong, h
		}
		number, lines = number+inside+1, lines[inside+1:]
	}
	if len(lines) > 0 {
		return api.SeasonBook{}, number, api.Shape
	}
	return b, 0, smooth
}

// modelNumber reads a number by printing it again.
func modelNumber(field string) (int, bool) {
	n, err := strconv.Atoi(field)
	return n, err == nil && strconv.Itoa(n) == field && n > -1000000000 && n < 1000000000
}

// modelPart reads a part; that of the award by what it prints again.
func modelPart(b api.SeasonBook, part int, text string) (api.SeasonBook, int, api.Hitch) {
	if part < layers {
		return withText(b, part, text)
	}
	b.Award = api.SeasonAward{}
	for i, line := range strings.Split(strings.TrimSuffix(text, "\n"), "\n") {
		f := strings.Split(line, " ")
		var read string
		if i == 0 && len(f) == 4 {
			b.Award.Value, b.Award.Crown, b.Award.Owner = modelReach(f[1]), modelAtoi(f[2]), modelAtoi(f[3])
			read = awardText(b.Award)
		} else if i > 0 && len(f) == 3 {
			m := man(f[1], modelAtoi(f[2]))
			b.Award.Men = append(b.Award.Men, m)
			read = fmt.Sprintf("man %s %d\n", m.Name, m.Shares)
		}
		if text == "" {
			return b, 0, api.Shape
		}
		if read != line+"\n" || len(f) == 3 && f[1] == "" {
			return b, i + 1, api.Shape
		}
	}
	return b, 0, modelAwardHitch(b.Award)
}

func modelAtoi(field string) int {
	n, _ := modelNumber(field)
	return n
}

func modelReach(field string) api.Reach {
	least, most, two := strings.Cut(field, ":")
	if !two {
		most = least
	}
	return reach(modelAtoi(least), modelAtoi(most))
}

// modelAwardHitch looks for hitches from the last one on.
func modelAwardHitch(a api.SeasonAward) api.Hitch {
	h := smooth
	for i := len(a.Men) - 1; i >= 0; i-- {
		m := a.Men[i]
		if m.Shares < 0 || m.Shares > 9 {
			h = api.Bounds
		}
		for _, before := range a.Men[:i] {
			if before.Name == m.Name {
				h = api.Double
			}
		}
		if !isLabel(m.Name) {
			h = api.Label
		}
	}
	if len(a.Men) > 4 {
		h = api.Number
	}
	if a.Value.Least < 0 || a.Value.Most > 99999 || a.Value.Most < a.Value.Least || a.Value.Most > a.Value.Least+4 || min(a.Crown, a.Owner) < 0 || max(a.Crown, a.Owner) > 100 {
		h = api.Bounds
	}
	return h
}

func isLabel(s string) bool {
	const letters, digits = "abcdefghijklmnopqrstuvwxyz", "0123456789"
	return len(s) > 0 && len(s) < 13 && strings.Contains(letters, s[:1]) && strings.Trim(s, letters+digits) == ""
}

// modelShares shares a value out by trying how many farthings a part of it has.
func modelShares(a api.SeasonAward, value int) []int {
	crown := modelOf(value, a.Crown, 100)
	owner := modelOf(value-crown, a.Owner, 100)
	left, shares := value-crown-owner, 0
	for _, m := range a.Men {
		shares += m.Shares
	}
	men := make([]int, len(a.Men))
	if shares == 0 {
		return append([]int{crown, owner + left}, men...)
	}
	over := left
	for i, m := range a.Men {
		men[i] = modelOf(left, m.Shares, shares)
		over -= men[i]
	}
	for i := 0; over > 0; i = (i + 1) % len(men) {
		if a.Men[i].Shares > 0 {
			men[i]++
			over--
		}
	}
	return append([]int{crown, owner}, men...)
}

// modelOf returns so many parts of a value, rounded down.
func modelOf(value, parts, of int) int {
	n := 0
	for (n+1)*of <= value*parts {
		n++
	}
	return n
}

// rows are the kinds of entries as the chapter lists them: their words, and the fields that they use.
func rows() [][2]string {
	return [][2]string{{"strike", "A"}, {"trust", "A"}, {"swing", "A M"}, {"sound", "A B C"}, {"steady", "A M"}, {"watch", "A C"}, {"blow", "M"}, {"mark", "A M"}, {"send", "A"}, {"line", "A B C"}, {"hurt", "A B"}, {"heel", "A C"}, {"lift", "A"}, {"try", "A B C"}, {"night", "A C"}, {"clean", "A B S"}, {"note", "A B C"}, {"value", "M"}, {"sign", "A S"}}
}

// modelOwn returns the hitch of an entry by itself.
func modelOwn(e api.SeasonEntry) api.Hitch {
	if e.Kind < 0 || int(e.Kind) >= len(rows()) || e.Hand != 0 && e.Hand != 1 {
		return api.Bounds
	}
	uses := rows()[e.Kind][1]
	for field, isEmpty := range map[string]bool{"A": e.A == 0, "B": e.B == 0, "C": e.C == 0, "M": e.M == one(0), "S": e.S == ""} {
		if !isEmpty && !strings.Contains(uses, field) {
			return api.Shape
		}
	}
	switch e.Kind {
	case api.SeasonWatch, api.SeasonLine, api.SeasonTry, api.SeasonNight, api.SeasonNote:
		if e.C != 0 && e.C != 1 {
			return api.Bounds
		}
	}
	return smooth
}

// modelDone returns the book in which an entry is done that is no strike and has no hitch by itself, or the hitch with which it is refused.
func modelDone(b api.SeasonBook, e api.SeasonEntry) (now api.SeasonBook, h api.Hitch) {
	now = b
	is := e.C == 1
	switch e.Kind {
	case api.SeasonTrust:
		now.Chart, h = bearing.Trust(b.Chart, e.A)
	case api.SeasonSwing:
		now.Chart, h = bearing.Swing(b.Chart, e.A, e.M)
	case api.SeasonSound:
		now.Drag, h = drag.Sound(b.Drag, api.DragLead{At: api.DragSquare{Row: e.A, Lane: e.B}, Brought: api.DragKind(e.C)})
	case api.SeasonSteady:
		now.Drag, h = drag.Steady(b.Drag, e.A, e.M)
	case api.SeasonWatch:
		now.Slack, h = slack.Watch(b.Slack, api.SlackWatch{At: e.A, Slack: is})
	case api.SeasonBlow:
		now.Slack, h = slack.Blow(b.Slack, e.M)
	case api.SeasonMark:
		now.Bell, h = bell.Mark(b.Bell, api.BellMark{Minute: e.A, Dry: e.M})
	case api.SeasonSend:
		now.Bell, h = bell.Send(b.Bell, e.A)
	case api.SeasonLine:
		now.Stint, h = stint.Sound(b.Stint, api.StintSounding{Place: e.A, Line: e.B, Bottom: is})
	case api.SeasonHurt:
		now.Stint, h = stint.Accident(b.Stint, e.A, e.B)
	case api.SeasonHeel:
		now.Hull, h = hull.Heel(b.Hull, api.HullHeel{After: e.A, Side: api.HullSide(e.C)})
	case api.SeasonLift:
		now.Hull, h = hull.Lift(b.Hull, e.A)
	case api.SeasonTry:
		now.Tackle, h = tackle.Try(b.Tackle, api.TackleTest{Gear: e.A, Load: e.B, Held: is})
	case api.SeasonNight:
		now.Mooring, h = mooring.Night(b.Mooring, api.MooringNight{Wind: e.A, Rode: is})
	case api.SeasonClean:
		now.Finds, h = finds.Clean(b.Finds, e.A, e.B, e.S)
	case api.SeasonNote:
		now.Finds, h = finds.Note(b.Finds, api.FindsNote{A: e.A, B: e.B, Same: is})
	case api.SeasonValue:
		now.Award.Value, h = modelCommon(b.Award.Value, e.M)
	case api.SeasonSign:
		now.Award.Men = slices.Concat(b.Award.Men, []api.SeasonMan{man(e.S, e.A)})
		h = modelAwardHitch(now.Award)
	}
	if h != smooth {
		return api.SeasonBook{}, h
	}
	return now, smooth
}

// modelCommon goes through the numbers of a value, which are few.
func modelCommon(value, x api.Reach) (common api.Reach, h api.Hitch) {
	if x.Least < 0 || x.Most < x.Least || x.Most > 99999 {
		return one(0), api.Bounds
	}
	h = api.Adrift
	for n := value.Most; n >= value.Least; n-- {
		if model.In(x, n) {
			if h == api.Adrift {
				common.Most = n
			}
			common.Least, h = n, smooth
		}
	}
	return common, h
}

// modelFold does those entries of a journal that have some numbers, but for strikes; it returns the first hitch that one has.
func modelFold(b api.SeasonBook, l []api.SeasonEntry, numbers []int) (api.SeasonBook, api.Hitch) {
	for _, n := range numbers {
		if l[n-1].Kind == api.SeasonStrike {
			continue
		}
		var h api.Hitch
		if b, h = modelDone(b, l[n-1]); h != smooth {
			return api.SeasonBook{}, h
		}
	}
	return b, smooth
}

// modelNext returns the hitch of the entry behind some, and the numbers of those that stand behind it.
func modelNext(first api.SeasonBook, l []api.SeasonEntry, stand []int, number int) ([]int, api.Hitch) {
	e := l[number-1]
	if h := modelOwn(e); h != smooth {
		return stand, h
	}
	rest := stand
	if e.Kind == api.SeasonStrike {
		if !slices.Contains(stand, e.A) || l[e.A-1].Kind == api.SeasonStrike {
			return stand, api.Missing
		}
		if l[e.A-1].Hand != e.Hand {
			return stand, api.Crossed
		}
		rest = slices.DeleteFunc(slices.Clone(stand), func(n int) bool { return n == e.A })
	}
	with := append(slices.Clone(rest), number)
	if _, h := modelFold(first, l, with); h != smooth {
		return stand, h
	}
	return with, smooth
}

// modelPlay plays a journal all anew for each entry.
func modelPlay(first api.SeasonBook, l []api.SeasonEntry) (hitches []api.Hitch, stand []int, now api.SeasonBook) {
	for i := range l {
		var h api.Hitch
		stand, h = modelNext(first, l, stand, i+1)
		hitches = append(hitches, h)
	}
	now, _ = modelFold(first, l, stand)
	return hitches, stand, now
}

// modelWhy tries all lists of entries.
func modelWhy(first api.SeasonBook, l []api.SeasonEntry, number int) ([]int, bool) {
	e := l[number-1]
	hitches, _, _ := modelPlay(first, l[:number])
	if hitches[number-1] == smooth || modelOwn(e) != smooth || e.Kind == api.SeasonStrike {
		return nil, false
	}
	_, before, _ := modelPlay(first, l[:number-1])
	before = slices.DeleteFunc(before, func(n int) bool { return l[n-1].Kind == api.SeasonStrike })
	pick := func(list []int) (numbers []int) {
		for _, i := range list {
			numbers = append(numbers, before[i])
		}
		return numbers
	}
	fewest, found := model.FewestOf(len(before), func(list []int) bool {
		b, h := modelFold(first, l, pick(list))
		if len(list) > 2 || h != smooth {
			return false
		}
		_, h = modelDone(b, e)
		return h == hitches[number-1]
	})
	return pick(fewest), found
}

// widest is a book of which each part is as great as can be, and as little known.
func widest() api.SeasonBook {
	texts := []string{
		"chart 7 7 2\ncompass -1:1\ncompass -1:1\ncompass -1:1\nwitness -1 0 e 0 maybe\nwitness 0 9 s 1 maybe\nwitness 2 -1 n 2 maybe\nwitness 9 9 sw 0 maybe\nwitness 9 0 nw 1 maybe\n",
		"drag 5 5 2\nground mmmmm\nground mmmm?\nground mmmmm\nground mmmmm\nground ?mmmm\nrock 0 0\nrock 2 2\nrock 4 4\nline 0:4 0:4 -1:1 touched\nline 0:4 0:4 -1:1 free\nline 0:4 0:4 -1:1 free\n",
		"slack -1:1 -1:1\nturn 40 7:9\nturn 80 7:9\nturn 120 7:9\nturn 160 7:9\n",
		"bell 99 33 1 8\nair 1 0:2 9 3 3 1:8 -\nman ann 1:3\nman bo 1:3\nman cy 1:3\n",
		"stint 0\nrow 10 60\nrow 15 50\nrow 20 40\nrow 30 30\nplace 9:11\nplace 14:16\nplace 19:21\nman ann 30\nman bo 30\nman cy 30\nman dee 30\ndive 0 0 20 2\ndive 1 20 20 2\ndive 2 40 20 2\ndive 0 60 20 2\n",
		"hull 9999 -1:1 -\npiece a -1 1:3 -\npiece b 1 1:3 -\npiece c -1 1:3 -\npiece d 1 1:3 -\npiece e 1 1:3 -\n",
		"tackle 99\npart a 0 97:99\npart b 1 97:99\npart c 2 97:99\npart d 3 97:99\ngear 0,1,2,3\ngear 3,2,1,0\ngear 0,1\npiece x 1:3\npiece y 2:4\npiece z 3:5\n",
		"mooring 30 97:99 97:99 97:99\nanchor 5 5 mud 99 99\nanchor 5 -5 sand 99 99\nanchor -5 -5 rock 99 99\nanchor -5 5 mud 99 99\nwind n 197:199\nwind se 197:199\nwind nw 197:199\n",
		"finds 3\nline 0 aaaa 3\nline 1 aaab 3\nline 2 aaba 3\nline 0 zzzz 3\nline 1 aaaa 3\nfind ????\nfind ????\nfind ????\nfind ????\nfind ????\n",
	}
	var b api.SeasonBook
	for part, text := range texts {
		b, _, _ = withText(b, part, text)
	}
	b.Award = awards()[2]
	return b
}

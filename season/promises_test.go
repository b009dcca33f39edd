package season_test

import (
	"fmt"
	"math/rand"
	"slices"
	"strings"
	"testing"

	"lagan/api"
	"lagan/model"
	"lagan/season"
)

// randomBook returns a book of the pool's, mostly of those that have cases.
func randomBook(r *rand.Rand) api.SeasonBook {
	var choice [all]int
	for part, texts := range pool() {
		choice[part] = max(0, r.Intn(len(texts)+2)-2)
	}
	choice[layers] = r.Intn(len(awards()))
	return chosen(choice)
}

// eachRandom hands random books on, the same ones each time.
func eachRandom(many int, look func(r *rand.Rand, b api.SeasonBook)) {
	r := rand.New(rand.NewSource(10))
	for range many {
		look(r, randomBook(r))
	}
}

// randomReach returns a reach about some numbers, sometimes none.
func randomReach(r *rand.Rand, least, most int) api.Reach {
	a := least + r.Intn(most-least+1)
	return reach(a, a+r.Intn(4)-r.Intn(8)/7)
}

// randomEntry returns an entry of a kind that is not far from what the books of the pool allow; sometimes it has a hitch by itself.
func randomEntry(r *rand.Rand, kind api.SeasonKind) api.SeasonEntry {
	e := api.SeasonEntry{Hand: r.Intn(2), Kind: kind}
	from := func(least, most int) int { return least + r.Intn(most-least+1) }
	switch kind {
	case api.SeasonStrike:
		e.A = from(1, 7)
	case api.SeasonTrust, api.SeasonLift:
		e.A = from(0, 3)
	case api.SeasonSwing, api.SeasonSteady:
		e.A, e.M = from(0, 1), randomReach(r, -1, 1)
	case api.SeasonSound:
		e.A, e.B, e.C = from(0, 2), from(0, 2), from(0, 2)
	case api.SeasonWatch:
		e.A, e.C = from(36, 47), from(0, 1)
	case api.SeasonBlow:
		e.M = randomReach(r, -1, 1)
	case api.SeasonMark:
		e.A, e.M = from(1, 2), randomReach(r, 9, 12)
	case api.SeasonSend:
		e.A = from(1, 5)
	case api.SeasonLine:
		e.A, e.B, e.C = r.Intn(4)/3, from(8, 11), from(0, 1)
	case api.SeasonHurt:
		e.A, e.B = from(8, 15), from(10, 30)
	case api.SeasonHeel:
		e.A, e.C = from(0, 2), from(0, 2)
	case api.SeasonTry:
		e.A, e.B, e.C = from(0, 1), from(19, 23), from(0, 1)
	case api.SeasonNight:
		e.A, e.C = from(0, 1), from(0, 1)
	case api.SeasonClean:
		e.A, e.B, e.S = from(0, 2), from(0, 1), string("abcd"[r.Intn(4)])
	case api.SeasonNote:
		e.A, e.B, e.C = from(0, 1), from(1, 2), from(0, 1)
	case api.SeasonValue:
		e.M = randomReach(r, 97, 103)
	case api.SeasonSign:
		e.A, e.S = from(0, 9), oneOf(r, []string{"ann", "dee", "eve", "z9"})
	}
	switch r.Intn(50) {
	case 0:
		e.Hand = 2
	case 1:
		e.C = 3
	case 2:
		e.S = "s"
	case 3:
		e.Kind = 19
	}
	return e
}

// randomJournal returns entries of few kinds, so that they are in each other's way, and strikes.
func randomJournal(r *rand.Rand) []api.SeasonEntry {
	var l []api.SeasonEntry
	kinds := []int{r.Intn(len(rows())), r.Intn(len(rows())), r.Intn(len(rows())), 0}
	if r.Intn(3) == 0 {
		// what rests on others
		l = []api.SeasonEntry{entry(api.SeasonLift, 2, 0, 0), entry(api.SeasonLift, r.Intn(2), 0, 0)}
		kinds = []int{int(api.SeasonLift), int(api.SeasonHeel), 0, 0}
	}
	for range r.Intn(9) {
		l = append(l, randomEntry(r, api.SeasonKind(oneOf(r, kinds))))
	}
	return l
}

// P10.1
func TestFiles(t *testing.T) {
	eachRandom(100, func(r *rand.Rand, b api.SeasonBook) {
		text, h := season.Write(b)
		if text != bookText(b) || h != smooth {
			t.Fatalf("Write(%v): %q, %v", b, text, h)
		}
		if o, line, h := season.Read(text); !equal(o, b) || line != 0 || h != smooth {
			t.Errorf("Read(%q): %v, %d, %v", text, o, line, h)
		}
		other := randomBook(r)
		var want []int
		for part := range all {
			if textsOf(b)[part] != textsOf(other)[part] {
				want = append(want, part)
			}
		}
		if l, h := season.Differ(b, other); !slices.Equal(l, want) || h != smooth {
			t.Errorf("Differ(%v, %v): %v, %v, want %v", b, other, l, h, want)
		}
	})
}

// P10.1: files of which something is changed are read as the model reads them.
func TestChangedFiles(t *testing.T) {
	read := map[api.Hitch]int{}
	eachRandom(400, func(r *rand.Rand, b api.SeasonBook) {
		lines := strings.SplitAfter(bookText(b), "\n")
		i, j := r.Intn(len(lines)), r.Intn(len(lines))
		switch r.Intn(5) {
		case 0:
			lines[i] = ""
		case 1:
			lines[i], lines[j] = lines[j], lines[i]
		case 2:
			lines[i] += lines[j]
		case 3:
			lines[i] = lines[j]
		case 4:
			at := r.Intn(len(lines[i]) + 1)
			lines[i] = lines[i][:at] + oneOf(r, []string{" ", "\n", "1", "-", "e", "end x\n"}) + lines[i][at:]
		}
		text := strings.Join(lines, "")
		o, line, h := season.Read(text)
		read[h]++
		if x, wantLine, want := modelRead(text); !equal(o, x) || line != wantLine || h != want {
			t.Errorf("Read(%q): %v, %d, %v, want %v, %d, %v", text, o, line, h, x, wantLine, want)
		}
	})
	// The sums are made right again, so that what Parse says is returned.
	eachRandom(400, func(r *rand.Rand, b api.SeasonBook) {
		texts := textsOf(b)
		part := r.Intn(all)
		at := r.Intn(len(texts[part]) + 1)
		if r.Intn(6) == 0 {
			texts[part] = strings.SplitAfter(texts[part], "\n")[0]
		} else {
			texts[part] = texts[part][:at] + oneOf(r, []string{" ", "\n", "1", "-", "e", ":", "man ann 1\n"}) + texts[part][at:]
		}
		text := fileOf(texts)
		o, line, h := season.Read(text)
		read[h]++
		if x, wantLine, want := modelRead(text); !equal(o, x) || line != wantLine || h != want {
			t.Errorf("Read(%q): %v, %d, %v, want %v, %d, %v", text, o, line, h, x, wantLine, want)
		}
	})
	for _, h := range []api.Hitch{smooth, api.Bounds, api.Number, api.Shape, api.Adrift} {
		if read[h] < 10 {
			t.Errorf("%v: %d files", h, read[h])
		}
	}
}

// P10.2
func TestAllCases(t *testing.T) {
	for part, texts := range pool() {
		for i := range texts {
			var choice [all]int
			choice[part] = i
			b := chosen(choice)
			if l, h := season.Cases(b); !slices.Equal(l, modelCases(b)) || h != smooth {
				t.Errorf("%q: %v, %v, want %v", texts[i], l, h, modelCases(b))
			}
		}
	}
}

// randomAward returns an award, and a value that is not always one of its own.
func randomAward(r *rand.Rand) (api.SeasonAward, int) {
	a := api.SeasonAward{Crown: r.Intn(101), Owner: r.Intn(101)}
	for i := range r.Intn(5) {
		a.Men = append(a.Men, man(fmt.Sprint("m", i), r.Intn(10)*r.Intn(2)))
	}
	if r.Intn(2) == 0 {
		a.Crown, a.Owner = r.Intn(3), r.Intn(3)
	}
	value := r.Intn([]int{10, 1000, 99996}[r.Intn(3)])
	a.Value = reach(value, value+r.Intn(4))
	return a, value + r.Intn(3)
}

// P10.2
func TestAllShares(t *testing.T) {
	b := bookY()
	eachRandom(300, func(r *rand.Rand, _ api.SeasonBook) {
		a, value := randomAward(r)
		b.Award = a
		if l, h := season.Shares(b, value); !slices.Equal(l, modelShares(a, value)) || h != smooth {
			t.Errorf("Shares(%v, %d): %v, %v, want %v", a, value, l, h, modelShares(a, value))
		}
		for i := range a.Men {
			var has []int
			for v := a.Value.Least; v <= a.Value.Most; v++ {
				has = append(has, modelShares(a, v)[2+i])
			}
			if x, h := season.Share(b, i); x != reach(slices.Min(has), slices.Max(has)) || h != smooth {
				t.Errorf("Share(%v, %d): %v, %v, want one of %v", a, i, x, h, has)
			}
		}
	})
}

// P10.3: what is put is taken as it was.
func TestPutAndTaken(t *testing.T) {
	r := rand.New(rand.NewSource(3))
	for range 500 {
		number := func() int { return (r.Intn(2000000001) - 1000000000) >> r.Intn(31) }
		s := make([]byte, r.Intn(3))
		for i := range s {
			s[i] = byte(r.Intn(256))
			if r.Intn(2) == 0 {
				s[i] = "- \na"[r.Intn(4)]
			}
		}
		e := api.SeasonEntry{Hand: number(), Kind: api.SeasonKind(r.Intn(21) - 1), A: number(), B: number(), C: number(), M: reach(number(), number()), S: string(s)}
		line, h := season.Put(e)
		isOut := false
		for _, n := range []int{e.Hand, e.A, e.B, e.C, e.M.Least, e.M.Most} {
			isOut = isOut || n > 999999999 || n < -999999999
		}
		want := smooth
		if strings.ContainsAny(e.S, " \n") || e.S == "-" {
			want = api.Shape
		}
		if isOut || e.Kind < 0 || e.Kind > 18 {
			want = api.Bounds
		}
		if h != want || h != smooth && line != "" {
			t.Errorf("Put(%v): %q, %v, want %v", e, line, h, want)
		}
		if o, g := season.Take(line); h == smooth && (o != e || g != smooth) {
			t.Errorf("Take(%q): %v, %v, want %v", line, o, g, e)
		}
	}
}

// P10.3
func TestAllDone(t *testing.T) {
	done := map[api.SeasonKind]int{}
	eachRandom(1500, func(r *rand.Rand, b api.SeasonBook) {
		e := randomEntry(r, api.SeasonKind(r.Intn(len(rows()))))
		o, h := season.Do(b, e)
		if want, g := modelDoneAlone(b, e); !equal(o, want) || h != g {
			t.Errorf("Do(%v, %v): %v, %v, want %v, %v", b, e, o, h, want, g)
		}
		if h == smooth {
			done[e.Kind]++
		}
	})
	for kind := range len(rows()) {
		if done[api.SeasonKind(kind)] == 0 && kind > 0 {
			t.Errorf("no %s is done", rows()[kind][0])
		}
	}
}

// P10.4
func TestAllPlayed(t *testing.T) {
	struck, refused := 0, 0
	eachRandom(1000, func(r *rand.Rand, b api.SeasonBook) {
		l := randomJournal(r)
		hitches, now, h := season.Play(b, l)
		wantHitches, wantStands, want := modelPlay(b, l)
		if !slices.Equal(hitches, wantHitches) || !equal(now, want) || h != smooth {
			t.Errorf("Play(%v, %v): %v, %v, %v, want %v, %v", b, l, hitches, now, h, wantHitches, want)
		}
		stands, h := season.Stands(b, l)
		if !slices.Equal(stands, wantStands) || h != smooth {
			t.Errorf("Stands(%v, %v): %v, %v, want %v", b, l, stands, h, wantStands)
		}
		for i, e := range l {
			before, _ := season.Stands(b, l[:i])
			switch isOwn := slices.Contains(before, e.A) && l[e.A-1].Kind != api.SeasonStrike && l[e.A-1].Hand == e.Hand; {
			case e.Kind != api.SeasonStrike || !isOwn || modelOwn(e) != smooth:
			case hitches[i] == smooth:
				struck++
			default:
				refused++
			}
		}
	})
	if struck < 30 || refused < 3 {
		t.Errorf("%d struck, %d refused", struck, refused)
	}
}

// P10.4, P10.13
func TestAllWhy(t *testing.T) {
	byMany := map[int]int{}
	none := 0
	eachRandom(300, func(r *rand.Rand, b api.SeasonBook) {
		l := randomJournal(r)
		for i := range l {
			numbers, found, h := season.Why(b, l, i+1)
			want, isFound := modelWhy(b, l, i+1)
			if !slices.Equal(numbers, want) || found != isFound || h != smooth {
				t.Errorf("Why(%v, %v, %d): %v, %v, %v, want %v, %v", b, l, i+1, numbers, found, h, want, isFound)
			}
			hitches, _, _ := season.Play(b, l)
			if found {
				byMany[len(numbers)]++
				checkWhy(t, b, l, numbers, i+1, hitches[i])
			} else if hitches[i] != smooth && modelOwn(l[i]) == smooth && l[i].Kind != api.SeasonStrike {
				none++
			}
		}
	})
	if byMany[0] < 30 || byMany[1] < 30 || byMany[2] < 3 {
		t.Errorf("%v entries, and %d without any", byMany, none)
	}
}

// checkWhy checks that some entries alone lead to a hitch of another one, and none of less.
func checkWhy(t *testing.T, b api.SeasonBook, l []api.SeasonEntry, numbers []int, number int, want api.Hitch) {
	t.Helper()
	for without := range len(numbers) + 1 {
		var some []api.SeasonEntry
		for i, n := range numbers {
			if i != without {
				some = append(some, l[n-1])
			}
		}
		hitches, _, h := season.Play(b, append(some, l[number-1]))
		if h != smooth {
			t.Fatal(h)
		}
		last := len(hitches) - 1
		isAlone := slices.Max(append(hitches[:last:last], smooth)) == smooth && hitches[last] == want
		if isAlone != (without == len(numbers)) {
			t.Errorf("%v: %v, without the one at %d: %v, want %v", l, numbers, without, hitches, want)
		}
	}
}

// randomQuestion returns one, sometimes with a hitch.
func randomQuestion(r *rand.Rand) api.SeasonAsk {
	q := ask(api.SeasonQuestion(r.Intn(7)), r.Intn(4))
	switch {
	case q.Kind == api.SeasonSettled:
		q.A = r.Intn(layers + 1)
	case (q.Kind == api.SeasonRota || q.Kind == api.SeasonOrder) && r.Intn(8) > 0:
		q.A = 0
	}
	if r.Intn(40) == 0 {
		q.Kind = 7
	}
	return q
}

// randomProof returns a list like a proof of a question, or something like it.
func randomProof(r *rand.Rand, b api.SeasonBook, q api.SeasonAsk) []int {
	lists := [][]int{nil, {0}, {-1}}
	if q.Kind < 7 {
		lists = modelProofs(b, q.Kind)
	}
	if len(lists) == 0 {
		return nil
	}
	proof := slices.Clone(oneOf(r, lists))
	if r.Intn(4) == 0 {
		_, proof, _ = modelAsk(b, q)
	}
	switch i := r.Intn(len(proof) + 1); {
	case r.Intn(3) > 0:
	case i < len(proof):
		proof[i] += r.Intn(3) - 1
	default:
		proof = append(proof, r.Intn(4))
	}
	return proof
}

// P10.5
func TestAllAsked(t *testing.T) {
	yeses, noes := map[api.SeasonQuestion]int{}, map[api.SeasonQuestion]int{}
	eachRandom(600, func(r *rand.Rand, b api.SeasonBook) {
		q := randomQuestion(r)
		yes, proof, h := season.Ask(b, q)
		wantYes, want, g := modelAsk(b, q)
		if yes != wantYes || !slices.Equal(proof, want) || h != g {
			t.Errorf("Ask(%v, %v): %v, %v, %v, want %v, %v, %v", b, q, yes, proof, h, wantYes, want, g)
		}
		if h != smooth {
			return
		}
		if yes {
			yeses[q.Kind]++
		} else {
			noes[q.Kind]++
		}
	})
	for kind := range api.SeasonSettled + 1 {
		if yeses[kind] < 3 || noes[kind] < 3 {
			t.Errorf("%v: %d yes, %d no", kind, yeses[kind], noes[kind])
		}
	}
}

// P10.5
func TestAllJudged(t *testing.T) {
	rights, wrongs := map[api.SeasonQuestion]int{}, map[api.SeasonQuestion]int{}
	eachRandom(1000, func(r *rand.Rand, b api.SeasonBook) {
		q := randomQuestion(r)
		proof := randomProof(r, b, q)
		is, h := season.Judge(b, q, proof)
		want := modelAskHitch(b, q)
		if h != want || is != (want == smooth && modelShows(b, q, proof)) {
			t.Errorf("Judge(%v, %v, %v): %v, %v, want the hitch %v", b, q, proof, is, h, want)
		}
		if is {
			rights[q.Kind]++
		} else if h == smooth {
			wrongs[q.Kind]++
		}
	})
	for kind := range api.SeasonSettled + 1 {
		if rights[kind] < 3 || wrongs[kind] < 3 {
			t.Errorf("%v: %d right, %d wrong", kind, rights[kind], wrongs[kind])
		}
	}
}

func listText(l []int) string {
	if len(l) == 0 {
		return "-"
	}
	return strings.ReplaceAll(strings.Trim(fmt.Sprint(l), "[]"), " ", ",")
}

// randomLine returns a line for a clerk, and the entry if it is one.
func randomLine(r *rand.Rand, b api.SeasonBook) (string, *api.SeasonEntry) {
	words := []string{"false", "plan", "rota", "order", "gears", "ours", "settled", "what"}
	q := randomQuestion(r)
	switch r.Intn(7) {
	case 0:
		return fmt.Sprintf("ask %s %d", words[q.Kind], q.A), nil
	case 1:
		return fmt.Sprintf("judge %s %d %s", words[q.Kind], q.A, listText(randomProof(r, b, q))), nil
	case 2:
		return fmt.Sprintf("share %d", r.Intn(110000)-5000), nil
	case 3:
		return oneOf(r, []string{"", "hello", "share", "ask plan", "entry", "judge plan 2", "entry 0 lift 2 0 0 0"}), nil
	}
	e := randomEntry(r, oneOf(r, []api.SeasonKind{api.SeasonStrike, api.SeasonLift, api.SeasonLine, api.SeasonSign, api.SeasonBlow, api.SeasonSend}))
	line, h := season.Put(e)
	if h != smooth {
		return "hello", nil
	}
	return line, &e
}

// modelAnswer returns what a clerk writes for a line that is no entry.
func modelAnswer(b api.SeasonBook, line string) string {
	var word, field, list string
	var n int
	if many, _ := fmt.Sscanf(line, "share %d", &n); many == 1 {
		if n < 0 || n > 99999 {
			return "hitch 1\n"
		}
		return "shares " + listText(modelShares(b.Award, n)) + "\n"
	}
	fmt.Sscanf(line, "%s %s %d %s", &word, &field, &n, &list)
	kind := slices.Index([]string{"false", "plan", "rota", "order", "gears", "ours", "settled"}, field)
	if kind < 0 || word == "judge" && list == "" || strings.Count(line, " ") < 2 {
		return "hitch 3\n"
	}
	yes, proof, h := modelAsk(b, ask(api.SeasonQuestion(kind), n))
	switch {
	case h != smooth:
		return fmt.Sprintf("hitch %d\n", h)
	case word == "judge":
		var given []int
		for _, f := range strings.Split(strings.TrimPrefix(list, "-"), ",") {
			if n, ok := modelNumber(strings.TrimSpace(f)); ok {
				given = append(given, n)
			}
		}
		if list != "-" && strings.HasPrefix(list, "-") {
			given[0] = -given[0]
		}
		return map[bool]string{true: "right\n", false: "wrong\n"}[modelShows(b, ask(api.SeasonQuestion(kind), n), given)]
	case yes:
		return "yes " + listText(proof) + "\n"
	}
	return "no\n"
}

// P10.5, P10.12
func TestAllClerks(t *testing.T) {
	firsts := map[string]int{}
	eachRandom(400, func(r *rand.Rand, b api.SeasonBook) {
		var lines []string
		var l []api.SeasonEntry
		now, want := b, ""
		for range r.Intn(11) {
			line, e := randomLine(r, now)
			lines = append(lines, line)
			if e == nil {
				want += modelAnswer(now, line)
				continue
			}
			l = append(l, *e)
			var hitches []api.Hitch
			var stand []int
			hitches, stand, now = modelPlay(b, l)
			if h := hitches[len(l)-1]; h != smooth {
				want += fmt.Sprintf("hitch %d\n", h)
			} else {
				want += fmt.Sprintf("done %d\n", len(stand))
			}
		}
		text := strings.Join(lines, "\n")
		if len(lines) > 0 {
			text += "\n"
		}
		out, o, h := season.Clerk(b, text)
		if out != want || !equal(o, now) || h != smooth {
			t.Errorf("Clerk(%v, %q): %q, %v, %v, want %q, %v", b, text, out, o, h, want, now)
		}
		if _, played, _ := season.Play(b, l); !equal(o, played) {
			t.Errorf("Clerk(%v, %q): %v, but %v is played", b, text, o, played)
		}
		for _, line := range strings.Split(out, "\n") {
			first, _, _ := strings.Cut(line, " ")
			firsts[first]++
		}
	})
	for _, word := range []string{"done", "hitch", "yes", "no", "right", "wrong", "shares"} {
		if firsts[word] < 20 {
			t.Errorf("%s: %d", word, firsts[word])
		}
	}
}

// P10.6
func TestPlayedOneByOne(t *testing.T) {
	eachRandom(200, func(r *rand.Rand, b api.SeasonBook) {
		l := randomJournal(r)
		hitches, now, _ := season.Play(b, l)
		stands, _ := season.Stands(b, l)
		made := b
		for _, n := range stands {
			if l[n-1].Kind == api.SeasonStrike {
				continue
			}
			var h api.Hitch
			if made, h = season.Do(made, l[n-1]); h != smooth {
				t.Fatalf("%v, %v: the entry %d, which stands: %v", b, l, n, h)
			}
		}
		if !equal(made, now) {
			t.Errorf("%v, %v: %v, but the entries that stand make %v", b, l, now, made)
		}
		for i := range l {
			if before, _, _ := season.Play(b, l[:i]); !slices.Equal(before, hitches[:i]) {
				t.Errorf("%v, %v: %v, but then %v", b, l, before, hitches)
			}
		}
	})
}

// P10.7
func TestStruck(t *testing.T) {
	struck := 0
	eachRandom(600, func(r *rand.Rand, b api.SeasonBook) {
		l := randomJournal(r)
		hitches, now, _ := season.Play(b, l)
		stands, _ := season.Stands(b, l)
		for i, e := range l {
			if e.Kind != api.SeasonStrike || hitches[i] != smooth {
				continue
			}
			if l[e.A-1].Hand != e.Hand || slices.Contains(stands, e.A) || !slices.Contains(stands, i+1) {
				t.Errorf("%v, %v: the strike %d: %v", b, l, i+1, stands)
			}
			// What is written in their places changes nothing.
			without := slices.Clone(l)
			without[i], without[e.A-1] = api.SeasonEntry{Hand: 2}, api.SeasonEntry{Hand: 2}
			others, _ := season.Stands(b, without)
			if slices.Equal(others, slices.DeleteFunc(slices.Clone(stands), func(n int) bool { return n == i+1 })) {
				struck++
				if _, then, _ := season.Play(b, without); !equal(now, then) {
					t.Errorf("%v, %v: %v, but without %d %v", b, l, now, e.A, then)
				}
			}
		}
	})
	if struck < 20 {
		t.Errorf("%d struck", struck)
	}
}

// P10.8
func TestDamagedFiles(t *testing.T) {
	for i := range 2 {
		b := chosen([all]int{i, i, i, i, i, i, i, i, i, i})
		text, _ := season.Write(b)
		for at := range len(text) {
			for _, other := range []byte{'\n', ' ', '0', '1', '-', ':', 'a', text[at] + 1, text[at] ^ 4} {
				damaged := text[:at] + string([]byte{other}) + text[at+1:]
				if o, line, h := season.Read(damaged); h == smooth && !equal(o, b) || h != smooth && line == 0 {
					t.Errorf("the byte %d of %q: %v, %d, %v", at, damaged, o, line, h)
				}
			}
		}
		lines := strings.SplitAfter(text, "\n")
		for at := range len(lines) - 1 {
			without := strings.Join(slices.Delete(slices.Clone(lines), at, at+1), "")
			if o, _, h := season.Read(without); h == smooth && equal(o, b) {
				t.Errorf("%q is read as the book", without)
			}
		}
	}
}

// P10.9
func TestProofs(t *testing.T) {
	yeses, noes := 0, 0
	lists := slices.Concat([][]int{nil}, numbersBelow(1, 5), numbersBelow(2, 5), numbersBelow(3, 5))
	eachRandom(150, func(r *rand.Rand, b api.SeasonBook) {
		q := randomQuestion(r)
		yes, proof, h := season.Ask(b, q)
		if h != smooth {
			return
		}
		if yes {
			yeses++
			if is, h := season.Judge(b, q, proof); !is || h != smooth {
				t.Errorf("%v, %v: %v does not show it: %v", b, q, proof, h)
			}
			return
		}
		noes++
		for _, l := range slices.Concat(lists, modelProofs(b, q.Kind)) {
			if is, h := season.Judge(b, q, l); is || h != smooth {
				t.Errorf("%v, %v: %v shows it, though it is not so: %v", b, q, l, h)
			}
		}
	})
	if yeses < 20 || noes < 20 {
		t.Errorf("%d yes, %d no", yeses, noes)
	}
}

// numbersBelow returns all lists of so many numbers, from -1 on.
func numbersBelow(many, most int) [][]int {
	return model.Numberings(slices.Repeat([]api.Reach{reach(-1, most-1)}, many))
}

// P10.10
func TestSharedOut(t *testing.T) {
	b := bookY()
	eachRandom(500, func(r *rand.Rand, _ api.SeasonBook) {
		a, value := randomAward(r)
		b.Award = a
		has, _ := season.Shares(b, value)
		sum, shares := 0, 0
		for _, n := range has {
			sum += n
		}
		for _, m := range a.Men {
			shares += m.Shares
		}
		if sum != value || slices.Min(has) < 0 {
			t.Errorf("%v, %d: %v, together %d", a, value, has, sum)
		}
		left := value - has[0] - has[1]
		checkPart(t, has[0], value*a.Crown, 100)
		if shares == 0 {
			if has[1] != value-has[0] {
				t.Errorf("%v, %d: %v, but nobody else has shares", a, value, has)
			}
			return
		}
		checkPart(t, has[1], (value-has[0])*a.Owner, 100)
		for i, m := range a.Men {
			checkPart(t, has[2+i], left*m.Shares, shares)
			for j, later := range a.Men[i+1:] {
				own, other := has[2+i], has[2+i+1+j]
				if m.Shares >= later.Shares && own < other || m.Shares < later.Shares && own > other+1 {
					t.Errorf("%v, %d: %v: the men %d and %d", a, value, has, i, i+1+j)
				}
			}
		}
		if value < 99999 {
			if more, _ := season.Shares(b, value+1); more[0] < has[0] {
				t.Errorf("%v, %d: the crown has %d, and then %d", a, value, has[0], more[0])
			}
		}
	})
}

// checkPart checks that somebody has no less than a part, rounded down, and at most a farthing above it.
func checkPart(t *testing.T, has, parts, of int) {
	t.Helper()
	if has < parts/of || (has-1)*of > parts {
		t.Errorf("%d, of %d by %d", has, parts, of)
	}
}

// P10.11, P0.4, P0.5
func TestTruth(t *testing.T) {
	done := map[api.SeasonKind]int{}
	eachRandom(300, func(r *rand.Rand, b api.SeasonBook) {
		x, found := someTruth(r, b)
		if !found {
			return
		}
		for range 8 {
			e, found := x.rightEntry(r, b, api.SeasonKind(1+r.Intn(len(rows())-1)))
			if !found {
				continue
			}
			now, h := season.Do(b, e)
			if h == api.Adrift {
				t.Errorf("%v: %v is right if it is %v, but adrift", b, e, x)
			}
			if h != smooth {
				continue
			}
			done[e.Kind]++
			if parts := x.denied(now); len(parts) > 0 {
				t.Errorf("%v: %v is right if it is %v, which is no case then of the parts %v", b, e, x, parts)
			}
			checkFewer(t, b, now, e)
			checkSure(t, b, now, e)
			b = now
		}
	})
	for kind := range len(rows()) {
		if done[api.SeasonKind(kind)] < 5 && kind > 0 {
			t.Errorf("%s: %d", rows()[kind][0], done[api.SeasonKind(kind)])
		}
	}
}

// checkFewer checks that what was entered adds no case.
func checkFewer(t *testing.T, before, now api.SeasonBook, e api.SeasonEntry) {
	t.Helper()
	had, _ := season.Cases(before)
	has, _ := season.Cases(now)
	for part := range layers {
		if has[part] > had[part] {
			t.Errorf("%v: %v: %v cases, and then %v", before, e, had, has)
		}
	}
}

// checkSure checks that proofs are right still once something was learnt; an accident, a cask that is sent, and a piece that is lifted are more than that.
func checkSure(t *testing.T, before, now api.SeasonBook, e api.SeasonEntry) {
	t.Helper()
	changes := map[api.SeasonKind]api.SeasonQuestion{api.SeasonHurt: api.SeasonRota, api.SeasonLift: api.SeasonOrder, api.SeasonSend: api.SeasonPlan, api.SeasonMark: api.SeasonPlan}
	for _, q := range []api.SeasonAsk{ask(api.SeasonPlan, 3), ask(api.SeasonRota, 0), ask(api.SeasonOrder, 0), ask(api.SeasonGears, 2), ask(api.SeasonOurs, 1), ask(api.SeasonSettled, 2), ask(api.SeasonSettled, 4)} {
		yes, proof, _ := season.Ask(before, q)
		if changed, is := changes[e.Kind]; !yes || is && changed == q.Kind {
			continue
		}
		if is, h := season.Judge(now, q, proof); !is || h != smooth {
			t.Errorf("%v: %v was shown by %v, but not behind %v: %v", before, q, proof, e, h)
		}
	}
}

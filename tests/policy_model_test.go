package tests

import (
	"math/rand"
	"regexp"
	"slices"
	"strconv"
	"strings"
	"testing"

	"loop.example/s0047/impl"
)

// Chapter 4 once more, as plainly as can be: the text is cut by patterns, every
// page and every output frame is looked at by itself, and the spans are the
// longest runs of pages that go on alike.

const (
	namePattern   = `([a-z][a-z0-9_]{0,15})`
	numberPattern = `(0|[1-9][0-9]{0,5})`
)

var (
	commentForm = regexp.MustCompile(`#[^\n]*`)
	badByteForm = regexp.MustCompile(`[^ \na-z0-9_;]`)
	keywordForm = regexp.MustCompile(`^(object|region|guard|at|shared|huge)$`)
	objectForm  = regexp.MustCompile(`^object ` + namePattern + ` ` + numberPattern + ` at ` + numberPattern + `( shared)?$`)
	regionForm  = regexp.MustCompile(`^region ` + numberPattern + ` ` + namePattern + ` (r|w|x|rw|rx|wx|rwx)( huge)?$`)
	guardForm   = regexp.MustCompile(`^guard ` + numberPattern + ` ` + numberPattern + `$`)
)

type modelObject struct {
	first  int
	count  int
	shared bool
	perms  []string
}

// modelPage is zero for a page that no region has.
type modelPage struct {
	out    int
	perm   int
	huge   bool
	mapped bool
}

type modelPolicy struct {
	objects map[string]*modelObject
	frames  [65536]bool
	taken   [4096]bool
	pages   [4096]modelPage
}

func modelNumber(word string) int {
	n, err := strconv.Atoi(word)
	if err != nil {
		panic(err)
	}
	return n
}

func modelPerm(word string) int {
	perm := 0
	for bit, letter := range "rwx" {
		if strings.ContainsRune(word, letter) {
			perm += 1 << bit
		}
	}
	return perm
}

// modelTake marks the numbers, or gives a code.
func modelTake(taken []bool, first int, count int) int {
	if count == 0 || first+count > len(taken) {
		return 7
	}
	if slices.Contains(taken[first:first+count], true) {
		return 8
	}
	for i := range count {
		taken[first+i] = true
	}
	return 0
}

func (p *modelPolicy) addObject(word []string) int {
	name, count, first := word[1], modelNumber(word[2]), modelNumber(word[3])
	if keywordForm.MatchString(name) {
		return 4
	}
	if p.objects[name] != nil {
		return 5
	}
	p.objects[name] = &modelObject{first: first, count: count, shared: word[4] != ""}
	return modelTake(p.frames[:], first, count)
}

func (p *modelPolicy) addRegion(word []string) int {
	first, name := modelNumber(word[1]), word[2]
	if keywordForm.MatchString(name) {
		return 4
	}
	o := p.objects[name]
	if o == nil {
		return 6
	}
	if code := modelTake(p.taken[:], first, o.count); code != 0 {
		return code
	}
	o.perms = append(o.perms, word[3])
	if !o.shared && len(o.perms) > 1 {
		return 9
	}
	all := strings.Join(o.perms, "")
	if o.shared && strings.Contains(all, "w") && strings.Contains(all, "x") {
		return 10
	}
	for i := range o.count {
		p.pages[first+i] = modelPage{out: o.first + i, perm: modelPerm(word[3]), huge: word[4] != "", mapped: true}
	}
	return 0
}

func (p *modelPolicy) addStatement(words string) int {
	if m := objectForm.FindStringSubmatch(words); m != nil {
		return p.addObject(m)
	}
	if m := regionForm.FindStringSubmatch(words); m != nil {
		return p.addRegion(m)
	}
	if m := guardForm.FindStringSubmatch(words); m != nil {
		return modelTake(p.taken[:], modelNumber(m[1]), modelNumber(m[2]))
	}
	return 4
}

func modelPolicyOf(text string) (*modelPolicy, impl.Diag) {
	p := &modelPolicy{objects: map[string]*modelObject{}}
	if len(text) > 20000 {
		return p, impl.Diag{Code: 1}
	}
	text = commentForm.ReplaceAllStringFunc(text, func(c string) string { return strings.Repeat(" ", len(c)) })
	if bad := badByteForm.FindStringIndex(text); bad != nil {
		return p, impl.Diag{Code: 2, At: bad[0]}
	}
	parts := strings.Split(text, ";")
	if len(parts) > 1001 {
		return p, impl.Diag{Code: 3, At: 1000}
	}
	for i, part := range parts {
		words := strings.Join(strings.Fields(part), " ")
		last := i == len(parts)-1
		if last && words == "" {
			break
		}
		code := p.addStatement(words)
		if last {
			code = 4
		}
		if code != 0 {
			return p, impl.Diag{Code: code, At: i}
		}
	}
	return p, impl.Diag{}
}

// goesOn tells whether one span may hold both pages, the second right behind the
// first.
func goesOn(a modelPage, b modelPage) bool {
	a.out++
	return a.mapped && a == b
}

func modelSpans(pages []modelPage) []impl.Span {
	var spans []impl.Span
	for i, p := range pages {
		switch {
		case !p.mapped:
		case i > 0 && goesOn(pages[i-1], p):
			spans[len(spans)-1].Count++
		default:
			spans = append(spans, impl.Span{Page: i, Count: 1, Out: p.out, Perm: p.perm, Huge: p.huge})
		}
	}
	return spans
}

func modelHit(pages []modelPage, page int) impl.Hit {
	p := pages[page]
	if !p.mapped {
		return impl.Hit{}
	}
	group := pages[page/16*16 : page/16*16+16]
	size := 16
	if !group[0].huge || group[0].out%16 != 0 {
		size = 1
	}
	for i := range 15 {
		if !goesOn(group[i], group[i+1]) {
			size = 1
		}
	}
	return impl.Hit{Kind: impl.KOk, Out: p.out, Perm: p.perm, Size: size}
}

// checkPolicy holds ReadPolicy, ValidSpans and (if asked) At of every page
// against the model.
func checkPolicy(t *testing.T, text string, everyPage bool) ([]impl.Span, impl.Diag) {
	t.Helper()
	model, want := modelPolicyOf(text)
	spans, got := impl.ReadPolicy(text)
	if got != want {
		t.Fatalf("%q: %v, want %v", text, got, want)
	}
	if want.Code != 0 {
		if len(spans) != 0 {
			t.Fatalf("%q: spans %v beside code %d", text, spans, want.Code)
		}
		return spans, got
	}
	if wantSpans := modelSpans(model.pages[:]); !slices.Equal(spans, wantSpans) {
		t.Fatalf("%q: spans %v, want %v", text, spans, wantSpans)
	}
	if !impl.ValidSpans(spans) {
		t.Fatalf("%q: spans %v are not valid", text, spans)
	}
	for page := 0; everyPage && page < 4096; page++ {
		if hit, wantHit := impl.At(spans, page), modelHit(model.pages[:], page); hit != wantHit {
			t.Fatalf("%q: page %d: %v, want %v", text, page, hit, wantHit)
		}
	}
	return spans, got
}

func pick[E any](r *rand.Rand, list []E) E {
	return list[r.Intn(len(list))]
}

var permWords = []string{"r", "w", "x", "rw", "rx", "wx", "rwx"}

// fewNames hold some that are at the edge of being one.
var fewNames = []string{"a", "b", "rw", "x", "abcdefghijklmno1", "a_", "objects"}

func anyNumber(r *rand.Rand, limit int) string {
	if r.Intn(60) == 0 {
		return pick(r, []string{"0", "00", "01", "4095", "4096", "65535", "65536", "999999", "1000000"})
	}
	return strconv.Itoa(1 + r.Intn(limit))
}

func anyObject(r *rand.Rand, name string) []string {
	words := []string{"object", name, anyNumber(r, 20), "at", anyNumber(r, 900)}
	if r.Intn(2) == 0 {
		words = append(words, "shared")
	}
	return words
}

func anyStatement(r *rand.Rand) []string {
	switch r.Intn(8) {
	case 0:
		return anyObject(r, pick(r, fewNames))
	case 1, 2:
		return []string{"guard", anyNumber(r, 600), anyNumber(r, 12)}
	}
	words := []string{"region", anyNumber(r, 600), pick(r, fewNames), pick(r, permWords)}
	if r.Intn(2) == 0 {
		words = append(words, "huge")
	}
	return words
}

// anyStatements begin with objects, since a region without its object hides all
// that is behind it.
func anyStatements(r *rand.Rand) [][]string {
	var stmts [][]string
	for _, i := range r.Perm(len(fewNames))[:len(fewNames)-r.Intn(2)*r.Intn(len(fewNames))] {
		stmts = append(stmts, bend(r, anyObject(r, fewNames[i])))
	}
	for range r.Intn(8) {
		stmts = append(stmts, bend(r, anyStatement(r)))
	}
	return stmts
}

var oddWords = []string{"object", "region", "guard", "at", "shared", "huge", "a", "r", "wr", "1", "_", "_a", "1a", "a1", "abcdefghijklmnopq", "0", "07", "1234567"}

// bend now and then makes a statement one that is none.
func bend(r *rand.Rand, words []string) []string {
	i := r.Intn(len(words))
	switch r.Intn(200) {
	case 0:
		return slices.Delete(words, i, i+1)
	case 1:
		return slices.Insert(words, i, pick(r, oddWords))
	case 2:
		words[i] = pick(r, oddWords)
	case 3:
		j := r.Intn(len(words))
		words[i], words[j] = words[j], words[i]
	}
	return words
}

func anyGap(r *rand.Rand) string {
	return pick(r, []string{" ", " ", " ", " ", "\n", "  ", " \n ", "# a; b\n", " # \t\xff#\n\n"})
}

// layOut writes statements with any gaps where there may be some.
func layOut(r *rand.Rand, stmts [][]string) string {
	var b strings.Builder
	for _, words := range stmts {
		for i, w := range words {
			if i > 0 || r.Intn(2) == 0 {
				b.WriteString(anyGap(r))
			}
			b.WriteString(w)
		}
		if r.Intn(4) == 0 {
			b.WriteString(anyGap(r))
		}
		b.WriteString(";")
	}
	return b.String()
}

var oddBytes = []string{" ", "\n", ";", "#", "_", "a", "z", "0", "9", "A", "Z", "\t", "\r", "\x00", "\x7f", "\xff", "/", ":", "`", "{", "é"}

// spoilText changes a byte or two.
func spoilText(r *rand.Rand, text string) string {
	for range 1 + r.Intn(2) {
		i := r.Intn(len(text) + 1)
		switch {
		case r.Intn(2) == 0 || i == len(text):
			text = text[:i] + pick(r, oddBytes) + text[i:]
		default:
			text = text[:i] + text[i+1:]
		}
	}
	return text
}

func TestPoliciesAgainstModel(t *testing.T) {
	r := rand.New(rand.NewSource(41))
	codes := map[int]int{}
	spans := 0
	for range 25000 {
		text := layOut(r, anyStatements(r))
		if r.Intn(8) == 0 {
			text = spoilText(r, text)
		}
		s, d := checkPolicy(t, text, r.Intn(40) == 0)
		codes[d.Code]++
		spans += len(s)
	}
	for _, code := range []int{0, 2, 4, 5, 6, 7, 8, 9, 10} {
		if codes[code] < 100 {
			t.Errorf("code %d came %d times only: %v", code, codes[code], codes)
		}
	}
	if spans < 1000 {
		t.Errorf("%d spans only", spans)
	}
}

// goodPolicy has regions that mostly touch and often can be joined, written in
// any order.
func goodPolicy(r *rand.Rand) [][]string {
	var objects, others [][]string
	page, frame := r.Intn(40), r.Intn(60)
	huge := r.Intn(2) == 0
	perm := pick(r, permWords)
	for i := range 1 + r.Intn(40) {
		count := pick(r, []int{1, 2, 7, 8, 15, 16, 17, 32, 48, 100})
		if page+count > 4096 {
			break
		}
		name := "n" + strconv.Itoa(i)
		objects = append(objects, []string{"object", name, strconv.Itoa(count), "at", strconv.Itoa(frame)})
		words := []string{"region", strconv.Itoa(page), name, perm}
		if huge {
			words = append(words, "huge")
		}
		others = append(others, words)
		page, frame = page+count, frame+count
		switch r.Intn(12) {
		case 0:
			gap := min(1+r.Intn(20), 4096-page)
			if gap > 0 {
				others = append(others, []string{"guard", strconv.Itoa(page), strconv.Itoa(gap)})
			}
			page, frame = page+gap, frame+gap
		case 1:
			frame += pick(r, []int{1, 8, 16})
		case 2:
			perm = pick(r, permWords)
		case 3:
			huge = !huge
		case 4:
			page, frame = (page+15)/16*16, (frame+15)/16*16
		}
	}
	r.Shuffle(len(others), func(i, j int) { others[i], others[j] = others[j], others[i] })
	return append(objects, others...)
}

func TestGoodPoliciesAgainstModel(t *testing.T) {
	r := rand.New(rand.NewSource(42))
	regions, spans, big := 0, 0, 0
	for range 500 {
		stmts := goodPolicy(r)
		s, d := checkPolicy(t, layOut(r, stmts), true)
		if d.Code != 0 {
			t.Fatalf("%v: %v", stmts, d)
		}
		for _, words := range stmts {
			if words[0] == "region" {
				regions++
			}
		}
		spans += len(s)
		for page := 0; page < 4096; page += 16 {
			if impl.At(s, page).Size == 16 {
				big++
			}
		}
	}
	if spans*2 > regions || big < 1000 {
		t.Errorf("%d regions, %d spans, %d big groups: joins or groups are too few", regions, spans, big)
	}
}

// TestAnyBytesAgainstModel has texts of odd pieces, most of which are far from
// being a policy.
func TestAnyBytesAgainstModel(t *testing.T) {
	r := rand.New(rand.NewSource(43))
	pieces := slices.Concat(oddWords, oddBytes[:9], []string{";", ";", " ", " ", " ", "\n", "object a 1 at 2;", "region 3 a r;"})
	for range 20000 {
		var b strings.Builder
		for range r.Intn(20) {
			b.WriteString(pick(r, pieces))
		}
		checkPolicy(t, b.String(), false)
	}
	for range 20000 {
		raw := make([]byte, r.Intn(12))
		r.Read(raw)
		checkPolicy(t, string(raw), false)
	}
}

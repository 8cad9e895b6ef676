package tests

import (
	"fmt"
	"hash/adler32"
	"hash/crc32"
	"math/rand"
	"regexp"
	"slices"
	"sort"
	"strings"

	"loop.example/corbel/impl"
)

// Trees and sessions are worked out here in another way than the program does: part by part, and on lists of files.

// treeSlowly is TreeOk, as the document says it.
func treeSlowly(tree []impl.File) bool {
	for i, f := range tree {
		if !nameSlowly(f.Path) || len(f.Text) > 300 || i > 0 && strings.Compare(tree[i-1].Path, f.Path) >= 0 {
			return false
		}
		for k, g := range tree {
			if i != k && clashSlowly(f.Path, g.Path) {
				return false
			}
		}
	}
	return len(tree) <= 8
}

// takeSlowly is TreeTake, as the document says it.
func takeSlowly(tree []impl.File, text string) ([]impl.File, int) {
	files, ok, _ := filesOfSlowly(text)
	if !treeSlowly(tree) || !ok {
		return nil, 1
	}
	taken := slices.DeleteFunc(slices.Clone(tree), func(f impl.File) bool { return slices.Contains(namesOf(files), f.Path) })
	for _, e := range files {
		taken = append(taken, impl.File{Path: e.Name, Text: e.Text})
	}
	sort.Slice(taken, func(i int, k int) bool { return taken[i].Path < taken[k].Path })
	switch {
	case len(taken) > 8:
		return tree, 4
	case !treeSlowly(taken):
		return tree, 3
	}
	return taken, 0
}

// placeFiles is the files of a tree in a place: those whose first parts are those of the place.
func placeFiles(tree []impl.File, place string) []impl.File {
	var list []impl.File
	for _, f := range tree {
		if place == "" || len(place) <= len(f.Path) && clashSlowly(place, f.Path) {
			list = append(list, f)
		}
	}
	return list
}

// madeAt is files of a tree as those of an archive.
func madeAt(tree []impl.File, at impl.Stamp) []impl.Entry {
	var list []impl.Entry
	for _, f := range tree {
		list = append(list, impl.Entry{Name: f.Path, At: at, Text: f.Text})
	}
	return list
}

// treeZipSlowly is TreeZip, as the document says it.
func treeZipSlowly(tree []impl.File, place string, at impl.Stamp) (string, int) {
	if !treeSlowly(tree) || place != "" && !nameSlowly(place) || !stampSlowly(at) {
		return "", 1
	}
	files := placeFiles(tree, place)
	if len(files) > 6 {
		return "", 4
	}
	return zipSlowly(madeAt(files, at)), 0
}

// fewTree is a tree of some of the few names, of which many are within others.
func fewTree(r *rand.Rand, most int) []impl.File {
	var tree []impl.File
	for range most {
		f := impl.File{Path: someName(r), Text: lettersText(r, r.Intn(30), 3)}
		more := append(slices.Clone(tree), f)
		sort.Slice(more, func(i int, k int) bool { return more[i].Path < more[k].Path })
		if treeSlowly(more) {
			tree = more
		}
	}
	return tree
}

// treeOf is a tree of such paths, which are in order, each with a text of its own.
func treeOf(paths ...string) []impl.File {
	var tree []impl.File
	for i, path := range paths {
		tree = append(tree, impl.File{Path: path, Text: strings.Repeat(path+" ", 1+2*i)})
	}
	return tree
}

// fullTree is a tree of as many files as may be, six of them in a dir.
func fullTree() []impl.File {
	return treeOf("a", "dir/a", "dir/b", "dir/c", "dir/d/e", "dir/d/f", "dir/g", "z")
}

// lineTwo and lineOne are lines with something behind their verb, by how many blanks they have.
var (
	lineTwo = regexp.MustCompile(`(?s)\A(add|swap|move) ([^ ]*) (.*)\z`)
	lineOne = regexp.MustCompile(`(?s)\A(drop|get|sum|kind) ([^ ]*)\z`)
)

// slowSession is a session on a list of files.
type slowSession struct {
	files []impl.Entry
}

func (s *slowSession) two(verb string, name string, rest string) string {
	code := 0
	e := impl.Entry{Name: name, At: impl.Stamp{Year: 2000, Month: 1, Day: 1}, Text: rest}
	switch verb {
	case "add":
		s.files, code = addSlowly(s.files, e)
	case "swap":
		s.files, code = swapSlowly(s.files, e)
	case "move":
		s.files, code = moveSlowly(s.files, name, rest)
	}
	return strings.Fields("fine form none twice full")[code] + "\n"
}

func (s *slowSession) one(verb string, word string) string {
	switch place := placeSlowly(s.files, word); {
	case verb == "drop" && place >= 0:
		s.files, _ = dropSlowly(s.files, word)
		return "fine\n"
	case verb == "get" && place >= 0:
		return s.files[place].Text + "\n"
	case verb == "drop" || verb == "get":
		return "none\n"
	case verb == "sum":
		return fmt.Sprintf("%d %d\n", crc32.ChecksumIEEE([]byte(word)), adler32.Checksum([]byte(word)))
	case len(word) > 300:
		return "what\n"
	}
	packed := bestSlowly(word)
	return fmt.Sprintf("%s %d\n", strings.Fields("store fixed own")[packed[0]/2%4], len(packed))
}

func (s *slowSession) line(line string) string {
	if parts := lineTwo.FindStringSubmatch(line); parts != nil {
		return s.two(parts[1], parts[2], parts[3])
	}
	if parts := lineOne.FindStringSubmatch(line); parts != nil {
		return s.one(parts[1], parts[2])
	}
	switch told := ""; line {
	case "list":
		for _, e := range s.files {
			told += fmt.Sprintf("%s %d\n", e.Name, len(e.Text))
		}
		return told
	case "long":
		return fmt.Sprintf("%d\n", len(zipSlowly(s.files)))
	}
	return "what\n"
}

// sessionSlowly is Session, as the document says it.
func sessionSlowly(lines []string) string {
	s := &slowSession{}
	told := ""
	for i, line := range lines {
		if i < 30 {
			told += s.line(line)
		}
	}
	return told
}

// randomLook is a line that only looks, or that is none.
func randomLook(r *rand.Rand) string {
	switch r.Intn(7) {
	case 0:
		return "list"
	case 1:
		return "long"
	case 2:
		return "sum " + lettersText(r, r.Intn(20), 3)
	case 3:
		return "kind " + lettersText(r, r.Intn(40), 1+r.Intn(4))
	case 4:
		odd := []string{"", " ", "what", "list ", "long 1", "add", "add a", "drop", "drop a b", "move a", "swap", "get a b", "sum", "sum a b", "kind a b", "Add a b", "get", " add a b", "add\ta b", "remove a", "list\n", "put a b", "addx a b"}
		return odd[r.Intn(len(odd))]
	}
	return "get " + someName(r)
}

// randomLine is any line.
func randomLine(r *rand.Rand) string {
	text := lettersText(r, r.Intn(30), 3)
	switch r.Intn(12) {
	case 0, 1, 2, 3:
		return "add " + someName(r) + " " + text
	case 4, 5:
		return "drop " + someName(r)
	case 6:
		return "swap " + someName(r) + " " + text + " " + text
	case 7, 8:
		return "move " + someName(r) + " " + someName(r)
	}
	return randomLook(r)
}

func randomLines(r *rand.Rand, many int) []string {
	var lines []string
	for range many {
		lines = append(lines, randomLine(r))
	}
	return lines
}

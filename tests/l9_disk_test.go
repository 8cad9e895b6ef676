package tests

import (
	"fmt"
	"math/rand"
	"regexp"
	"slices"
	"strconv"
	"testing"

	"loop.example/corbel/impl"
)

// logForm is a log that is whole, or longer: a number without needless zeros, a newline, anything.
var logForm = regexp.MustCompile(`(?s)\A(0|[1-9][0-9]*)\n(.*)\z`)

// archiveSlowly says whether a text is an archive.
func archiveSlowly(text string) bool {
	_, ok, _ := filesOfSlowly(text)
	return ok
}

// riseSlowly is DiskRise, as the document says it.
func riseSlowly(d impl.Disk) (impl.Disk, bool) {
	if parts := logForm.FindStringSubmatch(d.Log); parts != nil {
		long, err := strconv.Atoi(parts[1])
		if err == nil && long == len(parts[2]) && archiveSlowly(parts[2]) {
			return impl.Disk{Text: parts[2]}, true
		}
	}
	if archiveSlowly(d.Text) {
		return impl.Disk{Text: d.Text}, true
	}
	return impl.Disk{}, false
}

// checkRise holds DiskRise against what the document says; and is whether the disk is up.
func checkRise(t *testing.T, d impl.Disk) (impl.Disk, bool) {
	t.Helper()
	want, may := riseSlowly(d)
	up, ok := impl.DiskRise(d)
	if up != want || ok != may {
		t.Fatalf("DiskRise %q: %q %v, not %q %v", d, up, ok, want, may)
	}
	return up, ok
}

// diskOf is a disk with files that make an archive.
func diskOf(t *testing.T, list []impl.Entry) impl.Disk {
	t.Helper()
	d, ok := impl.DiskNew(list)
	if !ok {
		t.Fatalf("%v are not laid", list)
	}
	return d
}

// logOf is all of a log in which an archive is.
func logOf(archive string) string {
	return fmt.Sprintf("%d\n%s", len(archive), archive)
}

// noArchives are texts that are just no archives.
func noArchives() []string {
	archive := impl.ZipPut(filesOf("a", "b"))
	return []string{"", "x", archive[:len(archive)-1], archive + "\x00", archive[1:], impl.LocalPut(fileOf("a", "x")), logOf(archive)}
}

// fewArchives are some archives of which all can be torn at each byte.
func fewArchives(r *rand.Rand) []string {
	texts := []string{impl.ZipPut(nil), impl.ZipPut(filesOf("a")), impl.ZipPut([]impl.Entry{fileOf("a", "")}), impl.ZipPut(filesOf("dir/a", "dir/b", "b")), impl.ZipPut([]impl.Entry{fileOf("a", "22\nPK\x05\x06\n")})}
	for range 4 {
		texts = append(texts, oddZip(r, fewFiles(r, 3)))
	}
	return append(texts, impl.ZipPut(randomFiles(r, impl.ZipMax)))
}

func TestDiskOkIsAnArchiveAndNoLog(t *testing.T) {
	r := seeded(90)
	for _, text := range fewArchives(r) {
		if !impl.DiskOk(impl.Disk{Text: text}) {
			t.Errorf("%q is not ok", text)
		}
		for _, log := range []string{"\n", "0", "22", "22\n", logOf(text), text, "\x00"} {
			if impl.DiskOk(impl.Disk{Text: text, Log: log}) {
				t.Errorf("%q with the log %q is ok", text, log)
			}
		}
	}
	for _, none := range noArchives() {
		if impl.DiskOk(impl.Disk{Text: none}) || impl.DiskOk(impl.Disk{Text: none, Log: logOf(impl.ZipPut(nil))}) {
			t.Errorf("%q is ok", none)
		}
	}
}

func TestP42FilesThatWereLaidAreThere(t *testing.T) {
	for _, list := range someArchives(42) {
		d, ok := impl.DiskNew(list)
		if !ok || d != (impl.Disk{Text: impl.ZipPut(list)}) || !impl.DiskOk(d) {
			t.Fatalf("%v: %q %v", list, d, ok)
		}
		up, ok := impl.DiskRise(d)
		files, is := impl.ZipGet(up.Text)
		if !ok || !is || !same(files, list) || up != d {
			t.Fatalf("%v: %q %v", list, up, ok)
		}
	}
}

func TestP42FilesThatMakeNoArchiveAreNotLaid(t *testing.T) {
	lists := [][]impl.Entry{filesOf("a", "a"), filesOf("a", "a/b"), filesOf("a/b", "c", "a"), filesOf("a", "b", "c", "d", "e", "f", "g")}
	for _, e := range badFiles() {
		lists = append(lists, []impl.Entry{e}, append(filesOf("x", "y"), e))
	}
	for _, list := range lists {
		if d, ok := impl.DiskNew(list); d != (impl.Disk{}) || ok {
			t.Errorf("%v: %q %v", list, d, ok)
		}
	}
}

// An archive is torn at each byte, and kept by fewer bytes than none and by more than all.
func TestP43TornAtEachByte(t *testing.T) {
	r := seeded(43)
	texts := fewArchives(r)
	for i, text := range texts {
		was := texts[(i+1)%len(texts)]
		d := impl.Disk{Text: was}
		log := logOf(text)
		for bytes := range len(log) + 4 {
			checkTorn(t, d, text, bytes-2)
		}
		for _, bytes := range oddNumbers {
			checkTorn(t, d, text, bytes)
		}
		checkTorn(t, impl.Disk{Text: text}, text, len(log)/2)
	}
}

// checkTorn tears an archive that is being laid, and asks for the whole of one of both.
func checkTorn(t *testing.T, d impl.Disk, text string, bytes int) {
	t.Helper()
	log := logOf(text)
	kept := log[:min(max(bytes, 0), len(log))]
	torn := impl.DiskTear(d, text, bytes)
	if torn != (impl.Disk{Text: d.Text, Log: kept}) {
		t.Fatalf("%d bytes of %q: %q", bytes, log, torn)
	}
	want := d
	if len(kept) == len(log) {
		want = impl.Disk{Text: text}
	}
	if up, ok := checkRise(t, torn); up != want || !ok {
		t.Fatalf("%d bytes of %q, up again: %q %v, not %q", bytes, log, up, ok, want)
	}
}

// What is laid on no disk, or is no archive, leaves nothing.
func TestTearOfWhatIsNotOk(t *testing.T) {
	d, text := diskOf(t, filesOf("a")), impl.ZipPut(filesOf("b"))
	bad := []impl.Disk{{}, {Text: d.Text, Log: "\n"}, {Text: d.Text, Log: logOf(text)}, impl.DiskTear(d, text, 1), {Log: logOf(text)}}
	for _, none := range noArchives() {
		bad = append(bad, impl.Disk{Text: none})
		for _, bytes := range append(slices.Clone(oddNumbers), 0, 1, 5, 100, 1000) {
			if torn := impl.DiskTear(d, none, bytes); torn != (impl.Disk{}) {
				t.Errorf("%d bytes of %q: %q", bytes, none, torn)
			}
		}
	}
	for _, d := range bad {
		for _, bytes := range append(slices.Clone(oddNumbers), 0, 1, 5, 100, 1000) {
			if torn := impl.DiskTear(d, text, bytes); torn != (impl.Disk{}) {
				t.Errorf("%d bytes on %q: %q", bytes, d, torn)
			}
		}
	}
}

func TestP44WhatIsUpAgainIsOk(t *testing.T) {
	r := seeded(44)
	var disks []impl.Disk
	texts := append(fewArchives(r), noArchives()...)
	for _, was := range texts {
		for _, text := range texts {
			log := logOf(text)
			disks = append(disks, impl.Disk{Text: was, Log: log}, impl.Disk{Text: was, Log: log[:r.Intn(len(log)+1)]}, impl.Disk{Text: was, Log: text})
		}
	}
	ups := map[bool]int{}
	for _, d := range disks {
		up, ok := checkRise(t, d)
		ups[ok]++
		if !ok {
			continue
		}
		if again, once := impl.DiskRise(up); !impl.DiskOk(up) || again != up || !once {
			t.Fatalf("%q up is %q, and once more %q", d, up, again)
		}
	}
	if ups[true] == 0 || ups[false] == 0 {
		t.Errorf("%v", ups)
	}
}

// Logs that tell a number otherwise, or have more or fewer bytes than it tells, are not whole.
func TestLogsThatAreNotWhole(t *testing.T) {
	was, text := impl.ZipPut(filesOf("a")), impl.ZipPut(filesOf("b", "dir/c"))
	long := strconv.Itoa(len(text))
	for _, log := range []string{
		text, "\n" + text, long + text, "0" + long + "\n" + text, "+" + long + "\n" + text, "-" + long + "\n" + text, " " + long + "\n" + text, long + " \n" + text, long + "\r\n" + text, long + "\n\n" + text,
		strconv.Itoa(len(text)+1) + "\n" + text, strconv.Itoa(len(text)-1) + "\n" + text, long + "\n" + text + "x", long + "\n" + text[1:], logOf(text) + "\n", logOf(text) + logOf(text), "\n" + logOf(text), "0x" + strconv.FormatInt(int64(len(text)), 16) + "\n" + text,
		"99999999999999999999999999\n" + text, "18446744073709551616\n", "0\n", "0", "\n", "1\nx", logOf(text[1:]), logOf(text + "x"), logOf(logOf(text)), logOf(""), strconv.Itoa(len(text)+1) + "\n" + text + "x",
	} {
		if up, ok := checkRise(t, impl.Disk{Text: was, Log: log}); up != (impl.Disk{Text: was}) || !ok {
			t.Errorf("%q: %q %v", log, up, ok)
		}
		if up, ok := checkRise(t, impl.Disk{Text: was[1:], Log: log}); up != (impl.Disk{}) || ok {
			t.Errorf("%q: %q %v", log, up, ok)
		}
	}
}

// A log that is whole is enough, whatever was; and one a byte of which is another one is not.
func TestLogsThatAreWhole(t *testing.T) {
	text := impl.ZipPut(filesOf("b", "dir/c"))
	for _, none := range noArchives() {
		if up, ok := checkRise(t, impl.Disk{Text: none, Log: logOf(text)}); up != (impl.Disk{Text: text}) || !ok {
			t.Errorf("%q: %q %v", none, up, ok)
		}
	}
	was, log := impl.ZipPut(filesOf("a")), []byte(logOf(text))
	for i := range log {
		for _, bend := range []byte{1, 2, 32, 128, 255} {
			log[i] ^= bend
			checkRise(t, impl.Disk{Text: was, Log: string(log)})
			checkRise(t, impl.Disk{Log: string(log)})
			log[i] ^= bend
		}
	}
}

func TestP45TheSecondOfTwoThatWereLaid(t *testing.T) {
	r := seeded(45)
	texts := fewArchives(r)
	for i, first := range texts {
		d := impl.Disk{Text: texts[(i+3)%len(texts)]}
		second := texts[(i+1)%len(texts)]
		for bytes := 0; bytes < len(logOf(first)); bytes += 1 + r.Intn(9) {
			up, ok := impl.DiskRise(impl.DiskTear(d, first, bytes))
			if up != d || !ok {
				t.Fatalf("the first, %d bytes: %q %v", bytes, up, ok)
			}
			up, ok = impl.DiskRise(impl.DiskTear(up, second, len(logOf(second))))
			if up != (impl.Disk{Text: second}) || !ok {
				t.Fatalf("the second: %q %v", up, ok)
			}
		}
	}
}

func TestP95NothingOfWhatIsToBe(t *testing.T) {
	texts := fewArchives(seeded(95))
	for _, was := range texts {
		for _, text := range texts {
			for _, bytes := range []int{0, -1, -1 << 62} {
				d := impl.Disk{Text: was}
				if torn := impl.DiskTear(d, text, bytes); torn != d || !impl.DiskOk(torn) {
					t.Fatalf("%d bytes of %q on %q: %q", bytes, text, was, torn)
				}
			}
		}
	}
}

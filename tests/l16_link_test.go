package tests

import (
	"fmt"
	"maps"
	"math"
	"slices"
	"strings"
	"testing"

	"loop.example/g00504/impl"
)

// This host, the one that most frames come from, and one that is neither.
const (
	hereMac  = 0x02000000000b
	hereIp   = fromIp
	thereMac = 0x02000000000c
	thereIp  = toIp
	otherMac = 0x02000000000d
	otherIp  = 0x0a000007
)

// noMacs are numbers that are no Mac of a host, with those that have the lowest
// bytes of one.
var noMacs = slices.Concat(badHws, []int{mostHw, mostHw + 1 + hereMac, hereMac - 1<<48, hereMac | math.MinInt, hereMac | 1<<62})

// noIps are numbers that are no Ip, with those that have the lowest bytes of one.
var noIps = slices.Concat(badIps, []int{mostIp + 1 + hereIp, hereIp - 1<<32, hereIp | math.MinInt, hereIp | 1<<62, hereMac})

// outcome is all that LinkIn answers.
type outcome struct {
	link   impl.Link
	kind   int
	packet impl.Packet
	text   string
}

func linkWith(mac, ip int, cache ...impl.Entry) impl.Link {
	return impl.Link{Mac: mac, Ip: ip, Cache: cache}
}

func hereWith(cache ...impl.Entry) impl.Link { return linkWith(hereMac, hereIp, cache...) }

// fullCache knows neither this host nor the other two.
func fullCache() []impl.Entry {
	return cacheWith(entry(1, 11, 4), entry(2, 12, 7), entry(3, 13, 7), entry(4, 14, 0))
}

func arpFrame(dst, src int, a impl.Arp) string {
	return frameBytes(impl.Frame{Dst: dst, Src: src, Type: 0x0806, Body: arpBytes(a)})
}

func ipFrame(dst, src int, p impl.Packet) string {
	return frameBytes(impl.Frame{Dst: dst, Src: src, Type: 0x0800, Body: packetBytes(p)})
}

// arpOf returns a message from the other host.
func arpOf(kind, ip int) impl.Arp {
	return impl.Arp{Kind: kind, SrcHw: thereMac, SrcIp: thereIp, DstHw: 0x020000000099, DstIp: ip}
}

// packetTo returns a packet from the other host.
func packetTo(ip int, body string) impl.Packet {
	return impl.Packet{Src: thereIp, Dst: ip, Ttl: 9, Proto: 6, Id: 513, Body: body}
}

// goodFrames are a question, an answer and a packet to the host with this address,
// sent to dst.
func goodFrames(dst, ip int) []string {
	return []string{
		arpFrame(dst, thereMac, arpOf(1, ip)), arpFrame(dst, thereMac, arpOf(2, ip)),
		ipFrame(dst, thereMac, packetTo(ip, "some bytes")), ipFrame(dst, thereMac, packetTo(ip, "")),
	}
}

func validLink(l impl.Link) bool {
	return isWord(l.Mac, 48) && l.Mac < mostHw && isWord(l.Ip, 32) && validCache(l.Cache)
}

func equalLinks(a, b impl.Link) bool {
	if a.Mac != b.Mac || a.Ip != b.Ip || len(a.Cache) != len(b.Cache) {
		return false
	}
	for i, e := range a.Cache {
		if e.Ip != b.Cache[i].Ip || e.Hw != b.Cache[i].Hw || e.Age != b.Cache[i].Age {
			return false
		}
	}
	return true
}

func equalOutcomes(a, b outcome) bool {
	return equalLinks(a.link, b.link) && a.kind == b.kind && a.packet == b.packet && a.text == b.text
}

// learnedLink returns l with what it knows of one more mapping.
func learnedLink(l impl.Link, ip, hw int) impl.Link {
	return linkWith(l.Mac, l.Ip, learnedIn(l.Cache, ip, hw)...)
}

// repliedBytes are the bytes of the frame with which l answers the question a.
func repliedBytes(l impl.Link, a impl.Arp) string {
	head := wideBytes(a.SrcHw, 6) + wideBytes(l.Mac, 6) + "\x08\x06"
	return head + arpStart + "\x00\x02" + wideBytes(l.Mac, 6) + wideBytes(l.Ip, 4) + wideBytes(a.SrcHw, 6) + wideBytes(a.SrcIp, 4)
}

// outcomeOf reads raw as encoding/binary does.
func outcomeOf(l impl.Link, raw string) outcome {
	f, ok := frameIn(raw)
	if !ok || !validLink(l) || f.Dst != mostHw && f.Dst != l.Mac {
		return outcome{link: l}
	}
	a, isArp := arpIn(f.Body)
	p, why := packetAt(f.Body)
	switch {
	case f.Type == 0x0806 && isArp && a.DstIp == l.Ip && a.Kind == 1:
		return outcome{link: learnedLink(l, a.SrcIp, a.SrcHw), kind: 1, text: repliedBytes(l, a)}
	case f.Type == 0x0806 && isArp && a.DstIp == l.Ip:
		return outcome{link: learnedLink(l, a.SrcIp, a.SrcHw)}
	case f.Type == 0x0800 && why == 0 && p.Dst == l.Ip && p.Proto == 6 && p.Src != l.Ip:
		return outcome{link: learnedLink(l, p.Src, f.Src), kind: 2, packet: p}
	}
	return outcome{link: l}
}

// sentBytes builds what l sends, byte by byte.
func sentBytes(l impl.Link, ip int, body string) (string, bool) {
	hw, ok := hwIn(l.Cache, ip)
	if !ok || !validLink(l) || len(body) > 1480 {
		return "", false
	}
	packet := packetBytes(impl.Packet{Src: l.Ip, Dst: ip, Ttl: 64, Proto: 6, Body: body})
	return wideBytes(hw, 6) + wideBytes(l.Mac, 6) + "\x08\x00" + packet, true
}

func linkShown(l impl.Link) string {
	return fmt.Sprintf("{Mac %d, Ip %d, %s}", l.Mac, l.Ip, cacheShown(l.Cache))
}

func outcomeShown(o outcome) string {
	return fmt.Sprintf("%s, %d, %s, %d bytes %.60q", linkShown(o.link), o.kind, packetShown(o.packet), len(o.text), o.text)
}

// guardedLink returns l with a guarded cache.
func guardedLink(l impl.Link) (impl.Link, func() bool) {
	cache, kept := guardedBy(l.Cache, cacheGuard)
	return linkWith(l.Mac, l.Ip, cache...), kept
}

func linkIn(l impl.Link, raw string) outcome {
	link, kind, packet, text := impl.LinkIn(l, raw)
	return outcome{link, kind, packet, text}
}

func checkLinkOk(t *testing.T, l impl.Link, want bool) {
	t.Helper()
	given, kept := guardedLink(l)
	for range 2 {
		if got := impl.LinkOk(given); got != want || want != validLink(l) {
			t.Errorf("LinkOk(%s) = %v, want %v", linkShown(l), got, want)
		}
	}
	if !kept() {
		t.Errorf("LinkOk changed %s, or what is beside it", linkShown(l))
	}
}

func checkIn(t *testing.T, l impl.Link, raw string, want outcome) {
	t.Helper()
	if !equalOutcomes(want, outcomeOf(l, raw)) {
		t.Errorf("the test wants %s of %s and %.80q, and not %s", outcomeShown(want), linkShown(l), raw, outcomeShown(outcomeOf(l, raw)))
	}
	given, kept := guardedLink(l)
	for range 2 {
		got := linkIn(given, raw)
		if !equalOutcomes(got, want) {
			t.Errorf("LinkIn(%s, %d bytes %.80q) = %s, want %s", linkShown(l), len(raw), raw, outcomeShown(got), outcomeShown(want))
		}
		if impl.LinkOk(got.link) != validLink(l) {
			t.Errorf("LinkIn(%s, %.80q) answers the link %s", linkShown(l), raw, linkShown(got.link))
		}
	}
	if !kept() {
		t.Errorf("LinkIn changed %s, or what is beside it", linkShown(l))
	}
}

// checkLinkIn checks that LinkIn answers what it should.
func checkLinkIn(t *testing.T, l impl.Link, raw string) {
	t.Helper()
	checkIn(t, l, raw, outcomeOf(l, raw))
}

// checkIgnored checks that raw changes nothing.
func checkIgnored(t *testing.T, l impl.Link, raw string) {
	t.Helper()
	checkIn(t, l, raw, outcome{link: l})
}

func checkOut(t *testing.T, l impl.Link, ip int, body, want string, ok bool) {
	t.Helper()
	if wanted, wantOk := sentBytes(l, ip, body); wanted != want || wantOk != ok {
		t.Errorf("the test wants %.80q, %v for %d from %s, and not %.80q, %v", want, ok, ip, linkShown(l), wanted, wantOk)
	}
	given, kept := guardedLink(l)
	for range 2 {
		if got, gotOk := impl.LinkOut(given, ip, body); got != want || gotOk != ok {
			t.Errorf("LinkOut(%s, %d, %d bytes) = %.80q, %v, want %.80q, %v", linkShown(l), ip, len(body), got, gotOk, want, ok)
		}
	}
	if !kept() {
		t.Errorf("LinkOut changed %s, or what is beside it", linkShown(l))
	}
}

// checkLinkOut checks that LinkOut answers what it should.
func checkLinkOut(t *testing.T, l impl.Link, ip int, body string) {
	t.Helper()
	want, ok := sentBytes(l, ip, body)
	checkOut(t, l, ip, body, want, ok)
}

func checkNotSent(t *testing.T, l impl.Link, ip int, body string) {
	t.Helper()
	checkOut(t, l, ip, body, "", false)
}

// checkSameLinks checks SameLink in both directions.
func checkSameLinks(t *testing.T, a, b impl.Link, want bool) {
	t.Helper()
	given, kept := guardedLink(a)
	other, keptToo := guardedLink(b)
	if impl.SameLink(given, other) != want || impl.SameLink(other, given) != want || equalLinks(a, b) != want {
		t.Errorf("SameLink(%s, %s) is not %v", linkShown(a), linkShown(b), want)
	}
	if !impl.SameLink(given, given) || !impl.SameLink(other, other) {
		t.Errorf("%s or %s is not the same as itself", linkShown(a), linkShown(b))
	}
	if !kept() || !keptToo() {
		t.Errorf("SameLink changed %s or %s, or what is beside it", linkShown(a), linkShown(b))
	}
}

func TestLinkConstants(t *testing.T) {
	if impl.LkDrop != 0 || impl.LkAnswer != 1 || impl.LkPacket != 2 {
		t.Error("a constant of the link differs from the document")
	}
	l := impl.Link{}
	if l.Mac != 0 || l.Ip != 0 || l.Cache != nil {
		t.Error("a link has other fields")
	}
}

func TestLinkOk(t *testing.T) {
	for _, c := range []struct {
		n       int
		mac, ip bool
	}{
		{-1, false, false}, {0, true, true}, {1, true, true}, {4294967294, true, true}, {4294967295, true, true}, {4294967296, true, false},
		{281474976710654, true, false}, {281474976710655, false, false}, {281474976710656, false, false}, {281474976710657, false, false}, {math.MinInt, false, false}, {math.MaxInt, false, false},
	} {
		for _, cache := range [][]impl.Entry{nil, {}, fullCache(), entriesOf(1)} {
			checkLinkOk(t, linkWith(c.n, hereIp, cache...), c.mac)
			checkLinkOk(t, linkWith(hereMac, c.n, cache...), c.ip)
			checkLinkOk(t, linkWith(c.n, c.n, cache...), c.mac && c.ip)
		}
		checkLinkOk(t, linkWith(c.n, hereIp, entriesOf(5)...), false)
		checkLinkOk(t, linkWith(hereMac, c.n, entriesOf(5)...), false)
	}
	for _, mac := range noMacs {
		checkLinkOk(t, linkWith(mac, hereIp), false)
		checkLinkOk(t, linkWith(mac, mostIp, entriesOf(4)...), false)
	}
	for _, ip := range noIps {
		checkLinkOk(t, linkWith(hereMac, ip), false)
		checkLinkOk(t, linkWith(mostHw-1, ip, entriesOf(4)...), false)
	}
	for bit := range 64 {
		flip := int(uint64(1) << bit)
		checkLinkOk(t, linkWith(hereMac^flip, hereIp), bit < 48)
		checkLinkOk(t, linkWith(mostHw^flip, hereIp), bit < 48)
		checkLinkOk(t, linkWith(hereMac, hereIp^flip), bit < 32)
	}
	if !impl.LinkOk(impl.Link{}) || impl.LinkOk(impl.Link{Mac: impl.Everyone}) || !impl.LinkOk(impl.Link{Ip: mostIp}) {
		t.Error("LinkOk of a link with zero fields is wrong")
	}
}

func TestLinkOkOfCaches(t *testing.T) {
	for _, cache := range goodCaches() {
		checkLinkOk(t, hereWith(cache...), true)
		checkLinkOk(t, linkWith(0, 0, cache...), true)
		checkLinkOk(t, linkWith(mostHw-1, mostIp, cache...), true)
		checkLinkOk(t, linkWith(mostHw, hereIp, cache...), false)
		checkLinkOk(t, linkWith(hereMac, mostIp+1, cache...), false)
	}
	for _, cache := range refusedCaches() {
		checkLinkOk(t, hereWith(cache...), false)
		checkLinkOk(t, linkWith(0, 0, cache...), false)
		checkLinkOk(t, linkWith(mostHw, mostIp+1, cache...), false)
	}
	// A cache may know the host itself, and Everyone as the Mac of another.
	checkLinkOk(t, hereWith(entry(hereIp, hereMac, 3)), true)
	checkLinkOk(t, hereWith(entry(hereIp, thereMac, 3)), true)
	checkLinkOk(t, hereWith(entry(thereIp, hereMac, 3), entry(otherIp, mostHw, 0)), true)
	checkLinkOk(t, hereWith(entry(thereIp, mostHw+1, 0)), false)
}

// A frame that a link would accept changes nothing if the link has a fault.
func TestLinkInOfRefusedLinks(t *testing.T) {
	check := func(l impl.Link) {
		t.Helper()
		for _, dst := range []int{l.Mac, mostHw} {
			for _, raw := range goodFrames(dst, l.Ip) {
				checkIgnored(t, l, raw)
			}
		}
		checkIgnored(t, l, "")
		checkIgnored(t, l, goodFrames(otherMac, l.Ip)[0])
	}
	for _, cache := range [][]impl.Entry{nil, cacheWith(entry(thereIp, 5, 6)), fullCache()} {
		for _, mac := range noMacs {
			check(linkWith(mac, hereIp, cache...))
		}
		for _, ip := range noIps {
			check(linkWith(hereMac, ip, cache...))
		}
	}
	for _, cache := range refusedCaches() {
		check(hereWith(cache...))
		// Most of them have the fault also if the sender is known.
		if known := withIp(cache, 0, thereIp); !validCache(known) {
			check(hereWith(known...))
		}
	}
	// What would be learned is what is wrong.
	check(hereWith(entry(thereIp, thereMac, 10)))
	check(hereWith(entry(thereIp, -1, 0)))
	check(hereWith(append(fullCache(), entry(thereIp, thereMac, 9))...))
	check(linkWith(mostHw, mostIp+1, entriesOf(5)...))
}

// Each good frame is accepted, so that the faults of the tests below are the reason
// for which a frame is not.
func TestLinkInOfGoodFrames(t *testing.T) {
	kinds := []int{1, 0, 2, 2}
	for _, cache := range goodCaches() {
		l := hereWith(cache...)
		for _, dst := range []int{hereMac, mostHw} {
			for i, raw := range goodFrames(dst, hereIp) {
				got := linkIn(l, raw)
				if hw, ok := hwIn(got.link.Cache, thereIp); got.kind != kinds[i] || hw != thereMac || !ok {
					t.Errorf("LinkIn(%s, frame %d to %d) = %s", linkShown(l), i, dst, outcomeShown(got))
				}
				checkLinkIn(t, l, raw)
			}
		}
	}
}

func TestLinkInOfTextsThatAreNoFrame(t *testing.T) {
	for _, l := range []impl.Link{hereWith(), hereWith(entry(thereIp, 5, 6)), hereWith(fullCache()...)} {
		for _, dst := range []int{hereMac, mostHw} {
			for _, raw := range goodFrames(dst, hereIp) {
				for n := range 14 {
					checkIgnored(t, l, raw[:n])
				}
				// A frame behind one that is too long, and too long by itself.
				checkIgnored(t, l, raw+someBytes(1601-len(raw), 3))
				checkIgnored(t, l, raw+someBytes(100000, 3))
				checkIgnored(t, l, "\x00"+raw)
				checkIgnored(t, l, raw[1:])
				checkLinkIn(t, l, raw+someBytes(1600-len(raw), 3))
				if got := linkIn(l, raw+someBytes(1600-len(raw), 3)); equalLinks(got.link, l) {
					t.Errorf("the longest frame to %s was dropped", linkShown(l))
				}
				// The types that would be lengths.
				for _, n := range []int{0, 1, 6, 8, 1500, 1535} {
					checkIgnored(t, l, replaced(raw, 12, wideBytes(n, 2)))
				}
			}
		}
		for n := range 100 {
			checkIgnored(t, l, strings.Repeat("\x00", n))
			checkIgnored(t, l, strings.Repeat("\xff", n))
			checkLinkIn(t, l, someBytes(n, n))
		}
	}
}

func TestLinkInOfOtherHosts(t *testing.T) {
	for _, l := range []impl.Link{hereWith(), hereWith(entry(thereIp, 5, 6)), hereWith(fullCache()...), linkWith(0, hereIp), linkWith(mostHw-1, hereIp), linkWith(hereIp, hereIp)} {
		for bit := range 48 {
			for _, dst := range []int{l.Mac ^ 1<<bit, mostHw ^ 1<<bit} {
				if dst == l.Mac || dst == mostHw {
					continue
				}
				for _, raw := range goodFrames(dst, hereIp) {
					checkIgnored(t, l, raw)
				}
			}
		}
		for _, dst := range []int{thereMac, otherMac, 1, hereIp + 1, thereIp, 255, mostIp, mostHw - 2, 1 << 40} {
			for _, raw := range goodFrames(dst, hereIp) {
				checkIgnored(t, l, raw)
			}
		}
	}
	// The frame is not for this host, even if its body says this host's Mac.
	a := arpOf(1, hereIp)
	a.DstHw = hereMac
	checkIgnored(t, hereWith(), arpFrame(otherMac, hereMac, a))
	a.Kind = 2
	checkIgnored(t, hereWith(), arpFrame(otherMac, hereMac, a))
	checkIgnored(t, hereWith(), ipFrame(hereIp, hereMac, packetTo(hereIp, "")))
}

func TestLinkInOfOtherTypes(t *testing.T) {
	for _, l := range []impl.Link{hereWith(), hereWith(fullCache()...)} {
		for _, dst := range []int{hereMac, mostHw} {
			for i, raw := range goodFrames(dst, hereIp) {
				for kind := range 65536 {
					if kind == 0x0800 && i > 1 || kind == 0x0806 && i < 2 {
						continue
					}
					given := replaced(raw, 12, wideBytes(kind, 2))
					if got := linkIn(l, given); !equalOutcomes(got, outcome{link: l}) {
						t.Errorf("LinkIn(%s, %.80q) = %s", linkShown(l), given, outcomeShown(got))
					}
				}
				// The other type of the two, and those beside them.
				for _, kind := range []string{"\x08\x00", "\x08\x06", "\x08\x01", "\x08\x05", "\x08\x07", "\x07\xff", "\x00\x08", "\x06\x08", "\x86\xdd"} {
					if kind != raw[12:14] {
						checkIgnored(t, l, replaced(raw, 12, kind))
					}
				}
			}
		}
	}
}

func TestLinkInOfTextsThatAreNoArp(t *testing.T) {
	for _, l := range []impl.Link{hereWith(), hereWith(entry(thereIp, 5, 6)), hereWith(fullCache()...)} {
		for _, dst := range []int{hereMac, mostHw} {
			for _, raw := range goodFrames(dst, hereIp)[:2] {
				for n := 14; n < len(raw); n++ {
					checkIgnored(t, l, raw[:n])
				}
				for at := 14; at < 22; at++ {
					for c := range 256 {
						if at != 21 || c != 1 && c != 2 {
							if wide := wideBytes(c, 1); wide != raw[at:at+1] {
								checkIgnored(t, l, replaced(raw, at, wide))
							}
						}
					}
				}
				for kind := range 1000 {
					if kind != 1 && kind != 2 {
						checkIgnored(t, l, replaced(raw, 20, wideBytes(kind, 2)))
					}
				}
				checkIgnored(t, l, raw[:14]+"\x00"+raw[14:])
			}
		}
	}
}

func TestLinkInOfArpsForOthers(t *testing.T) {
	for _, l := range []impl.Link{hereWith(), hereWith(entry(thereIp, 5, 6), entry(otherIp, otherMac, 1)), hereWith(fullCache()...), linkWith(5, 0), linkWith(5, mostIp)} {
		for _, dst := range []int{l.Mac, mostHw} {
			for _, kind := range []int{1, 2} {
				for bit := range 32 {
					checkIgnored(t, l, arpFrame(dst, thereMac, arpOf(kind, l.Ip^1<<bit)))
				}
				for _, ip := range []int{thereIp, otherIp, 5, 1, mostIp - 1, hereMac & mostIp} {
					checkIgnored(t, l, arpFrame(dst, thereMac, arpOf(kind, ip)))
					// It says this host's Mac, or comes from this host's address.
					a := arpOf(kind, ip)
					a.DstHw = l.Mac
					checkIgnored(t, l, arpFrame(dst, thereMac, a))
					a.SrcIp = l.Ip
					checkIgnored(t, l, arpFrame(dst, thereMac, a))
					a.SrcHw = l.Mac
					checkIgnored(t, l, arpFrame(dst, l.Mac, a))
				}
			}
		}
	}
}

// Each error of ReadPacket alone, and all pairs of them.
func TestLinkInOfTextsThatAreNoPacket(t *testing.T) {
	all := breaks()
	for _, l := range []impl.Link{hereWith(), hereWith(entry(thereIp, 5, 6)), hereWith(fullCache()...)} {
		for _, dst := range []int{hereMac, mostHw} {
			s := packetBytes(packetTo(hereIp, "a body of 20 bytes!!"))
			for one := 1; one <= 6; one++ {
				for i := range all[one] {
					var picks [7]int
					picks[one] = i + 1
					for other := one; other <= 6; other++ {
						both := picks
						both[other] = max(both[other], 1)
						checkIgnored(t, l, frameBytes(impl.Frame{Dst: dst, Src: thereMac, Type: 0x0800, Body: broken(s, both)}))
					}
				}
			}
			for at := range 20 {
				raw := ipFrame(dst, thereMac, packetTo(hereIp, "a body"))
				checkIgnored(t, l, raw[:14+at])
				checkIgnored(t, l, replaced(raw, 14+at, wideBytes(int(raw[14+at])^4, 1)))
			}
			checkIgnored(t, l, frameBytes(impl.Frame{Dst: dst, Src: thereMac, Type: 0x0800, Body: "\x00" + s}))
			// Without one, the same packet is accepted.
			checkIn(t, l, frameBytes(impl.Frame{Dst: dst, Src: thereMac, Type: 0x0800, Body: broken(s, [7]int{})}),
				outcome{link: learnedLink(l, thereIp, thereMac), kind: 2, packet: packetTo(hereIp, "a body of 20 bytes!!")})
		}
	}
}

func TestLinkInOfPacketsForOthers(t *testing.T) {
	for _, l := range []impl.Link{hereWith(), hereWith(entry(thereIp, 5, 6)), hereWith(fullCache()...), linkWith(5, 0), linkWith(5, mostIp)} {
		for _, dst := range []int{l.Mac, mostHw} {
			for bit := range 32 {
				checkIgnored(t, l, ipFrame(dst, thereMac, packetTo(l.Ip^1<<bit, "body")))
			}
			for _, ip := range []int{thereIp, otherIp, 1, mostIp - 1, 5, hereMac & mostIp} {
				checkIgnored(t, l, ipFrame(dst, thereMac, packetTo(ip, "")))
			}
			for proto := range 256 {
				p := packetTo(l.Ip, "body")
				p.Proto = proto
				if proto != 6 {
					checkIgnored(t, l, ipFrame(dst, thereMac, p))
				} else {
					checkIn(t, l, ipFrame(dst, thereMac, p), outcome{link: learnedLink(l, thereIp, thereMac), kind: 2, packet: p})
				}
			}
		}
	}
}

// A packet from this host's own address is nobody's, whoever sends it and whatever
// the cache knows.
func TestLinkInOfPacketsFromTheOwnAddress(t *testing.T) {
	for _, ip := range goodIps {
		caches := [][]impl.Entry{nil, cacheWith(entry(ip, thereMac, 3)), cacheWith(entry(ip, hereMac, 3)), cacheWith(entry(thereIp, thereMac, 2), entry(ip, 5, 0)), cacheWith(entry(20, 2, 9), entry(21, 2, 9), entry(22, 3, 1), entry(23, 4, 1))}
		for _, cache := range caches {
			l := linkWith(hereMac, ip, cache...)
			for _, dst := range []int{hereMac, mostHw} {
				for _, src := range []int{thereMac, hereMac, otherMac, 0, mostHw, ip} {
					for _, body := range []string{"", "body"} {
						own := impl.Packet{Src: ip, Dst: ip, Ttl: 64, Proto: 6, Body: body}
						checkIgnored(t, l, ipFrame(dst, src, own))
						// One from the own address to another one is not accepted either.
						own.Dst = ip ^ 1
						checkIgnored(t, l, ipFrame(dst, src, own))
						for bit := range 32 {
							p := impl.Packet{Src: ip ^ 1<<bit, Dst: ip, Ttl: 64, Proto: 6, Body: body}
							checkIn(t, l, ipFrame(dst, src, p), outcome{link: learnedLink(l, p.Src, src), kind: 2, packet: p})
						}
					}
				}
			}
		}
	}
}

// learnedCases are caches, and what they are after an entry is learned of the other
// host, which has the address ip.
func learnedCases(ip, hw int) []struct{ before, after []impl.Entry } {
	now := entry(ip, hw, 0)
	a, b, c, d := entry(1, 11, 4), entry(2, 12, 7), entry(3, 13, 7), entry(4, 14, 0)
	return []struct{ before, after []impl.Entry }{
		{nil, cacheWith(now)},
		{cacheWith(a), cacheWith(a, now)},
		{cacheWith(a, b, c), cacheWith(a, b, c, now)},
		{cacheWith(entry(ip, hw, 5)), cacheWith(now)},
		{cacheWith(entry(ip, hw, 0)), cacheWith(now)},
		{cacheWith(entry(ip, 77, 9)), cacheWith(now)},
		{cacheWith(a, entry(ip, 77, 5), b), cacheWith(a, now, b)},
		{cacheWith(a, b, c, entry(ip, 0, 9)), cacheWith(a, b, c, now)},
		{cacheWith(entry(ip, hw, 1), a, b, c), cacheWith(now, a, b, c)},
		{cacheWith(a, b, c, d), cacheWith(a, c, d, now)},
		{cacheWith(d, a, c, b), cacheWith(d, a, b, now)},
		{cacheWith(c, b, a, d), cacheWith(b, a, d, now)},
		{cacheWith(d, a, entry(5, 15, 1), entry(6, 16, 9)), cacheWith(d, a, entry(5, 15, 1), now)},
		{cacheWith(entry(5, hw, 3)), cacheWith(entry(5, hw, 3), now)},
	}
}

func TestLinkInOfArps(t *testing.T) {
	for _, ip := range []int{hereIp, thereIp, otherIp, 0, mostIp} {
		for _, hw := range []int{hereMac, thereMac, 0, 1 << 47, mostHw - 1, mostHw} {
			for _, c := range learnedCases(ip, hw) {
				l, after := hereWith(c.before...), hereWith(c.after...)
				for _, dst := range []int{hereMac, mostHw} {
					for _, src := range []int{hw, otherMac, hereMac, 0, mostHw} {
						for _, dstHw := range []int{0, hereMac, otherMac, mostHw} {
							ask := impl.Arp{Kind: 1, SrcHw: hw, SrcIp: ip, DstHw: dstHw, DstIp: hereIp}
							answer := ask
							answer.Kind = 2
							checkIn(t, l, arpFrame(dst, src, ask), outcome{link: after, kind: impl.LkAnswer, text: repliedBytes(l, ask)})
							checkIn(t, l, arpFrame(dst, src, answer), outcome{link: after})
						}
					}
				}
			}
		}
	}
}

// Each field of the answer to a question, and of what is in it.
func TestLinkInAnswersQuestions(t *testing.T) {
	for seed := range 3000 {
		l := linkWith(someInt(seed)&(mostHw-1), someInt(seed+1)&mostIp, someCache(seed)...)
		ask := impl.Arp{Kind: 1, SrcHw: someInt(seed+2) & mostHw, SrcIp: someInt(seed+3) & mostIp, DstHw: someInt(seed+4) & mostHw, DstIp: l.Ip}
		dst := []int{l.Mac, mostHw}[seed%2]
		raw := arpFrame(dst, someInt(seed+5)&mostHw, ask) + someBytes(seed%60, seed)
		checkLinkIn(t, l, raw)
		got := linkIn(l, raw)
		f, ok := frameIn(got.text)
		if !ok || f.Dst != ask.SrcHw || f.Src != l.Mac || f.Type != impl.EtArp || len(f.Body) != 28 || got.kind != impl.LkAnswer || got.packet != (impl.Packet{}) {
			t.Errorf("LinkIn(%s, %+v) = %s", linkShown(l), ask, outcomeShown(got))
		}
		a, ok := arpIn(f.Body)
		if want, _ := arpReplyTo(ask, l.Mac, l.Ip); !ok || a != want || a.SrcHw != l.Mac || a.SrcIp != l.Ip || a.DstHw != ask.SrcHw || a.DstIp != ask.SrcIp {
			t.Errorf("LinkIn(%s, %+v) answers %+v", linkShown(l), ask, a)
		}
		if reply, _ := impl.ArpReply(ask, l.Mac, l.Ip); f.Body != impl.ArpText(reply) {
			t.Errorf("LinkIn(%s, %+v) answers %q", linkShown(l), ask, f.Body)
		}
		if hw, ok := hwIn(got.link.Cache, ask.SrcIp); hw != ask.SrcHw || !ok {
			t.Errorf("LinkIn(%s, %+v) learns %s", linkShown(l), ask, linkShown(got.link))
		}
		// The answer teaches the one who asked.
		if asker := linkWith(ask.SrcHw, ask.SrcIp); validLink(asker) {
			checkIn(t, asker, got.text, outcome{link: learnedLink(asker, l.Ip, l.Mac)})
		}
	}
}

func TestLinkInOfPackets(t *testing.T) {
	for _, ip := range []int{thereIp, otherIp, 0, mostIp, hereIp ^ 1} {
		for _, hw := range []int{hereMac, thereMac, 0, 1 << 47, mostHw - 1, mostHw} {
			for _, c := range learnedCases(ip, hw) {
				l, after := hereWith(c.before...), hereWith(c.after...)
				for _, dst := range []int{hereMac, mostHw} {
					for _, body := range []string{"", "a", "some bytes", someBytes(1480, 3)} {
						p := impl.Packet{Src: ip, Dst: hereIp, Ttl: 64, Proto: 6, Body: body}
						checkIn(t, l, ipFrame(dst, hw, p), outcome{link: after, kind: impl.LkPacket, packet: p})
						// The bytes behind a packet are not of its body.
						p.Ttl, p.Id = 1, 65535
						checkIn(t, l, ipFrame(dst, hw, p)+"\x00", outcome{link: after, kind: impl.LkPacket, packet: p})
						checkIn(t, l, ipFrame(dst, hw, p)+someBytes(1600-34-len(body), 5), outcome{link: after, kind: impl.LkPacket, packet: p})
					}
				}
			}
		}
	}
}

// The packet is whole, whatever is in its fields.
func TestLinkInOfPacketFields(t *testing.T) {
	for seed := range 3000 {
		l := linkWith(someInt(seed)&(mostHw-1), someInt(seed+1)&mostIp, someCache(seed)...)
		p := somePacket(seed, seed%1481)
		p.Dst, p.Proto, p.Src = l.Ip, 6, p.Src&^1|l.Ip&1^1
		src := someInt(seed+2) & mostHw
		raw := ipFrame([]int{l.Mac, mostHw}[seed%2], src, p) + someBytes(seed%80, seed)
		checkIn(t, l, raw, outcome{link: learnedLink(l, p.Src, src), kind: impl.LkPacket, packet: p})
		_, kind, got, text := impl.LinkIn(l, raw)
		if kind != 2 || got.Src != p.Src || got.Dst != p.Dst || got.Ttl != p.Ttl || got.Proto != p.Proto || got.Id != p.Id || got.Body != p.Body || text != "" {
			t.Errorf("LinkIn of the packet %s answers %d, %s, %q", packetShown(p), kind, packetShown(got), text)
		}
	}
	for ttl := 1; ttl < 256; ttl++ {
		p := packetTo(hereIp, "body")
		p.Ttl = ttl
		checkIn(t, hereWith(), ipFrame(hereMac, thereMac, p), outcome{link: hereWith(entry(thereIp, thereMac, 0)), kind: 2, packet: p})
	}
	// The second byte and the bit that forbids fragments may be set.
	p := packetTo(hereIp, "body")
	s := resealed(replaced(replaced(packetBytes(p), 1, "\xb8"), 6, "\x40"))
	checkIn(t, hereWith(), frameBytes(impl.Frame{Dst: hereMac, Src: thereMac, Type: 0x0800, Body: s}), outcome{link: hereWith(entry(thereIp, thereMac, 0)), kind: 2, packet: p})
}

// Of a frame with a packet, its own Src is learned, and of one with a message, the
// SrcHw in it.
func TestLinkInLearnsFromTheRightField(t *testing.T) {
	for _, src := range goodHws {
		for _, hw := range goodHws {
			a := impl.Arp{Kind: 1, SrcHw: hw, SrcIp: thereIp, DstHw: otherMac, DstIp: hereIp}
			checkIn(t, hereWith(), arpFrame(hereMac, src, a), outcome{link: hereWith(entry(thereIp, hw, 0)), kind: 1, text: repliedBytes(hereWith(), a)})
			a.Kind = 2
			checkIn(t, hereWith(), arpFrame(mostHw, src, a), outcome{link: hereWith(entry(thereIp, hw, 0))})
		}
		p := packetTo(hereIp, "body")
		checkIn(t, hereWith(entry(thereIp, 1, 5)), ipFrame(hereMac, src, p), outcome{link: hereWith(entry(thereIp, src, 0)), kind: 2, packet: p})
		// Of a packet that is not accepted, nothing is learned.
		p.Proto = 17
		checkIgnored(t, hereWith(entry(thereIp, 1, 5)), ipFrame(hereMac, src, p))
	}
}

func TestLinkOut(t *testing.T) {
	l := hereWith(entry(thereIp, thereMac, 4), entry(otherIp, 0, 9), entry(hereIp, 77, 0), entry(5, mostHw, 1))
	for _, c := range []struct{ ip, hw int }{{thereIp, thereMac}, {otherIp, 0}, {hereIp, 77}, {5, mostHw}} {
		for _, n := range []int{0, 1, 2, 20, 1459, 1460, 1478, 1479, 1480} {
			body := someBytes(n, n)
			checkLinkOut(t, l, c.ip, body)
			s, ok := impl.LinkOut(l, c.ip, body)
			f, isFrame := frameIn(s)
			if !ok || !isFrame || f.Dst != c.hw || f.Src != hereMac || f.Type != impl.EtIp || len(f.Body) != 20+n {
				t.Errorf("LinkOut(%s, %d, %d bytes) = %.60q, %v", linkShown(l), c.ip, n, s, ok)
			}
			p, why := packetAt(f.Body)
			if why != 0 || p.Src != hereIp || p.Dst != c.ip || p.Ttl != 64 || p.Proto != impl.PrTcp || p.Id != 0 || p.Body != body {
				t.Errorf("LinkOut(%s, %d, %d bytes) has the packet %s, %d", linkShown(l), c.ip, n, packetShown(p), why)
			}
		}
		for _, n := range []int{1481, 1482, 1500, 1566, 1567, 1586, 1587, 1600, 65515, 65516, 65535, 65536, 100000} {
			checkNotSent(t, l, c.ip, someBytes(n, n))
			checkNotSent(t, l, c.ip, strings.Repeat("\x00", n))
		}
	}
	for _, ip := range slices.Concat(noIps, []int{0, 1, 4, 6, 77, thereIp ^ 1, thereMac, hereMac, mostHw, mostIp}) {
		for _, body := range []string{"", "a", someBytes(1481, 3)} {
			checkNotSent(t, l, ip, body)
			checkNotSent(t, hereWith(), ip, body)
		}
	}
	for bit := range 64 {
		checkNotSent(t, l, thereIp^int(uint64(1)<<bit), "body")
	}
	checkNotSent(t, hereWith(), thereIp, "body")
	checkNotSent(t, impl.Link{}, 0, "body")
	checkNotSent(t, impl.Link{Cache: []impl.Entry{}}, 0, "")
	checkLinkOut(t, linkWith(0, 0, impl.Entry{}), 0, "body")
}

func TestLinkOutOfRefusedLinks(t *testing.T) {
	bodies := []string{"", "body", someBytes(1480, 3), someBytes(1481, 3)}
	for _, body := range bodies {
		for _, cache := range [][]impl.Entry{cacheWith(entry(thereIp, thereMac, 4)), append(fullCache()[1:], entry(thereIp, thereMac, 4))} {
			for _, mac := range noMacs {
				checkNotSent(t, linkWith(mac, hereIp, cache...), thereIp, body)
			}
			for _, ip := range noIps {
				checkNotSent(t, linkWith(hereMac, ip, cache...), thereIp, body)
			}
			checkNotSent(t, linkWith(mostHw, mostIp+1, cache...), thereIp, body)
		}
		for _, cache := range refusedCaches() {
			for _, e := range cache[:min(len(cache), 3)] {
				checkNotSent(t, hereWith(cache...), e.Ip, body)
			}
			checkNotSent(t, hereWith(cache...), otherIp, body)
		}
		for n, cache := range refusedCaches() {
			if n%7 == 0 {
				checkNotSent(t, hereWith(append(cacheWith(entry(thereIp, thereMac, 4)), cache...)...), thereIp, body)
			}
		}
	}
}

// Whoever is known is sent to, at every place of the cache and at every age.
func TestLinkOutOfEachEntry(t *testing.T) {
	for _, cache := range goodCaches() {
		for _, l := range []impl.Link{hereWith(cache...), linkWith(0, 0, cache...), linkWith(mostHw-1, mostIp, cache...)} {
			for _, e := range cache {
				checkLinkOut(t, l, e.Ip, "body")
				checkLinkOut(t, l, e.Ip, "")
				checkLinkOut(t, l, e.Hw, "body")
				if s, ok := impl.LinkOut(l, e.Ip, ""); !ok || len(s) != 34 {
					t.Errorf("LinkOut(%s, %d, none) = %q, %v", linkShown(l), e.Ip, s, ok)
				}
			}
			checkNotSent(t, l, otherIp, "body")
		}
	}
	for _, age := range goodAges {
		checkLinkOut(t, hereWith(entry(thereIp, thereMac, age)), thereIp, "body")
	}
	for _, ip := range goodIps {
		for _, hw := range goodHws {
			checkLinkOut(t, hereWith(entry(otherIp, 3, 4), entry(ip, hw, 1)), ip, "body")
		}
	}
}

// Hosts that ask everyone for an address and then send to its owner. Nobody else
// learns anything, and everything that is sent arrives.
func TestLinksTalk(t *testing.T) {
	hosts := []impl.Link{linkWith(0, mostIp), linkWith(mostHw-1, 0), linkWith(hereMac, hereIp), linkWith(thereMac, thereIp), linkWith(5, 6), linkWith(6, 5)}
	for n := range 300 {
		from, to := n%len(hosts), n/len(hosts)%len(hosts)
		if from == to {
			continue
		}
		ask := impl.FrameText(impl.Frame{Dst: impl.Everyone, Src: hosts[from].Mac, Type: impl.EtArp, Body: impl.ArpText(impl.Arp{Kind: impl.ArAsk, SrcHw: hosts[from].Mac, SrcIp: hosts[from].Ip, DstIp: hosts[to].Ip})})
		answer := arrivesAt(t, hosts, to, ask, impl.LkAnswer)
		arrivesAt(t, hosts, from, answer.text, impl.LkDrop)
		if hw, ok := impl.HwOf(hosts[from].Cache, hosts[to].Ip); hw != hosts[to].Mac || !ok {
			t.Errorf("the host %s does not know that %d is at %d", linkShown(hosts[from]), hosts[to].Ip, hosts[to].Mac)
		}
		for _, size := range []int{0, 1, n, 1480} {
			body := someBytes(size, n)
			raw, ok := impl.LinkOut(hosts[from], hosts[to].Ip, body)
			if got := arrivesAt(t, hosts, to, raw, impl.LkPacket); !ok || got.packet != (impl.Packet{Src: hosts[from].Ip, Dst: hosts[to].Ip, Ttl: 64, Proto: 6, Body: body}) {
				t.Errorf("from %s, there arrives %s", linkShown(hosts[from]), outcomeShown(got))
			}
			// It came from where an answer is to go, without another question.
			back, ok := impl.LinkOut(hosts[to], hosts[from].Ip, body)
			arrivesAt(t, hosts, from, back, impl.LkPacket)
			if !ok {
				t.Errorf("the host %s cannot answer", linkShown(hosts[to]))
			}
		}
		for i := range hosts {
			hosts[i].Cache = impl.Aged(hosts[i].Cache)
		}
	}
}

// arrivesAt gives raw to every host, and returns what the host at to answers. The
// others stay as they are.
func arrivesAt(t *testing.T, hosts []impl.Link, to int, raw string, kind int) outcome {
	t.Helper()
	got := linkIn(hosts[to], raw)
	if got.kind != kind || equalLinks(got.link, hosts[to]) && !slices.ContainsFunc(hosts[to].Cache, func(e impl.Entry) bool { return e.Age == 0 }) {
		t.Errorf("LinkIn(%s, %.60q) = %s, want %d", linkShown(hosts[to]), raw, outcomeShown(got), kind)
	}
	for i, l := range hosts {
		checkLinkIn(t, l, raw)
		if i != to {
			checkIgnored(t, l, raw)
		}
	}
	hosts[to] = got.link
	return got
}

func TestSameLink(t *testing.T) {
	base := hereWith(fullCache()...)
	checkSameLinks(t, base, hereWith(fullCache()...), true)
	checkSameLinks(t, impl.Link{}, impl.Link{}, true)
	checkSameLinks(t, impl.Link{}, impl.Link{Cache: []impl.Entry{}}, true)
	checkSameLinks(t, hereWith(), hereWith(entriesOf(3)[:0]...), true)
	if !impl.SameLink(impl.Link{Mac: 1, Ip: 2}, impl.Link{Mac: 1, Ip: 2, Cache: make([]impl.Entry, 0, 4)}) || !impl.SameLink(impl.Link{Cache: []impl.Entry{}}, impl.Link{}) {
		t.Error("nil and empty caches are not the same")
	}
	for _, n := range slices.Concat(farInts, noMacs, noIps) {
		checkSameLinks(t, base, linkWith(n, hereIp, fullCache()...), n == hereMac)
		checkSameLinks(t, base, linkWith(hereMac, n, fullCache()...), n == hereIp)
		checkSameLinks(t, linkWith(n, 5), linkWith(5, n), n == 5)
		checkSameLinks(t, linkWith(n, n, entry(n, n, n)), linkWith(n, n, entry(n, n, n)), true)
	}
	for bit := range 64 {
		flip := int(uint64(1) << bit)
		checkSameLinks(t, base, linkWith(hereMac^flip, hereIp, fullCache()...), false)
		checkSameLinks(t, base, linkWith(hereMac, hereIp^flip, fullCache()...), false)
		for at, e := range fullCache() {
			checkSameLinks(t, base, hereWith(withIp(fullCache(), at, e.Ip^flip)...), false)
			checkSameLinks(t, base, hereWith(withHw(fullCache(), at, e.Hw^flip)...), false)
			checkSameLinks(t, base, hereWith(withAge(fullCache(), at, e.Age^flip)...), false)
		}
	}
	checkSameLinks(t, base, linkWith(hereIp, hereMac, fullCache()...), false)
	checkSameLinks(t, base, linkWith(hereMac+1, hereIp-1, fullCache()...), false)
}

func TestSameLinkOfCaches(t *testing.T) {
	for n := range 8 {
		for m := range 8 {
			checkSameLinks(t, hereWith(entriesOf(n)...), hereWith(entriesOf(m)...), n == m)
		}
		for at := range n {
			list := entriesOf(n)
			checkSameLinks(t, hereWith(list...), hereWith(slices.Delete(slices.Clone(list), at, at+1)...), false)
			checkSameLinks(t, hereWith(list...), hereWith(append(slices.Clone(list), list[at])...), false)
			for from := range at {
				swapped := slices.Clone(list)
				swapped[at], swapped[from] = swapped[from], swapped[at]
				checkSameLinks(t, hereWith(list...), hereWith(swapped...), false)
			}
			e := list[at]
			checkSameLinks(t, hereWith(list...), hereWith(withEntry(list, at, entry(e.Hw, e.Ip, e.Age))...), false)
			checkSameLinks(t, hereWith(list...), hereWith(withEntry(list, at, entry(e.Ip, e.Hw+1, e.Age-1))...), false)
			checkSameLinks(t, hereWith(list...), hereWith(withEntry(list, at, impl.Entry{})...), false)
		}
	}
	lists := append(goodCaches(), refusedCaches()...)
	for i, list := range lists {
		checkSameLinks(t, hereWith(list...), hereWith(slices.Clone(list)...), true)
		other := lists[(i*31+7)%len(lists)]
		checkSameLinks(t, hereWith(list...), hereWith(other...), slices.Equal(list, other))
	}
}

func TestLinkOfConfusedNumbers(t *testing.T) {
	// The Mac and the Ip are the same number.
	same := linkWith(5, 5)
	a := arpOf(1, 5)
	checkIn(t, same, arpFrame(5, thereMac, a), outcome{link: learnedLink(same, thereIp, thereMac), kind: 1, text: repliedBytes(same, a)})
	checkIn(t, same, ipFrame(5, 7, packetTo(5, "x")), outcome{link: linkWith(5, 5, entry(thereIp, 7, 0)), kind: 2, packet: packetTo(5, "x")})
	p := packetTo(5, "x")
	p.Src = 5
	checkIgnored(t, same, ipFrame(5, 7, p))
	// The Mac of this host as the address of another, and the other way round.
	l := linkWith(5, 7)
	p = impl.Packet{Src: 5, Dst: 7, Ttl: 1, Proto: 6}
	checkIn(t, l, ipFrame(5, 7, p), outcome{link: linkWith(5, 7, entry(5, 7, 0)), kind: 2, packet: p})
	checkIgnored(t, l, ipFrame(7, 5, p))
	checkIgnored(t, l, ipFrame(5, 7, impl.Packet{Src: 7, Dst: 5, Ttl: 1, Proto: 6}))
	checkIgnored(t, l, ipFrame(5, 7, impl.Packet{Src: 7, Dst: 7, Ttl: 1, Proto: 6}))
	checkIgnored(t, l, ipFrame(5, 7, impl.Packet{Src: 5, Dst: 5, Ttl: 1, Proto: 6}))
	checkIgnored(t, l, arpFrame(5, 7, impl.Arp{Kind: 1, SrcHw: 7, SrcIp: 5, DstHw: 7, DstIp: 5}))
	checkIgnored(t, l, arpFrame(7, 5, impl.Arp{Kind: 1, SrcHw: 7, SrcIp: 5, DstHw: 5, DstIp: 7}))
	checkIn(t, l, arpFrame(5, 7, impl.Arp{Kind: 2, SrcHw: 7, SrcIp: 5, DstIp: 7}), outcome{link: linkWith(5, 7, entry(5, 7, 0))})
	// A frame from the own Mac is not dropped for that, and a message from the own
	// address is learned like another.
	p = packetTo(hereIp, "x")
	checkIn(t, hereWith(), ipFrame(hereMac, hereMac, p), outcome{link: hereWith(entry(thereIp, hereMac, 0)), kind: 2, packet: p})
	own := impl.Arp{Kind: 1, SrcHw: hereMac, SrcIp: hereIp, DstIp: hereIp}
	checkIn(t, hereWith(), arpFrame(mostHw, hereMac, own), outcome{link: hereWith(entry(hereIp, hereMac, 0)), kind: 1, text: repliedBytes(hereWith(), own)})
	own.SrcHw = thereMac
	checkIn(t, hereWith(entry(hereIp, hereMac, 3)), arpFrame(mostHw, otherMac, own), outcome{link: hereWith(entry(hereIp, thereMac, 0)), kind: 1, text: repliedBytes(hereWith(), own)})
	own.Kind = 2
	checkIn(t, hereWith(), arpFrame(mostHw, otherMac, own), outcome{link: hereWith(entry(hereIp, thereMac, 0))})
	// A question from Everyone is answered to everyone.
	all := arpOf(1, hereIp)
	all.SrcHw = mostHw
	checkIn(t, hereWith(), arpFrame(hereMac, thereMac, all), outcome{link: hereWith(entry(thereIp, mostHw, 0)), kind: 1, text: repliedBytes(hereWith(), all)})
	// The kinds of a message are not the kinds of what is to be done.
	for _, kind := range []int{0, 3, 256, 257, 258} {
		checkIgnored(t, hereWith(), arpFrame(hereMac, thereMac, arpOf(kind, hereIp)))
	}
}

// linkDraw is a frame that was drawn, and what it should do.
type linkDraw struct {
	name   string
	raw    string
	mine   bool
	ip, hw int
	kind   int
}

// drawFrame returns frames of every kind for a host at mac and ip, sent to it, to
// everyone and to others, from few addresses.
func drawFrame(mac, ip, seed int) linkDraw {
	draw := func(n int) int { return (someInt(seed*11+n) & mostIp) % 1000 }
	to := []string{"here", "everyone", "other"}[draw(1)%3]
	// The lowest bit alone may make Everyone of a Mac.
	bit := 1 + draw(2)%47
	dst := map[string]int{"here": mac, "everyone": mostHw, "other": []int{mac ^ 1<<bit, mostHw ^ 1<<bit, ip + 1, 3}[draw(3)%4]}[to]
	src, hw, from := 100+draw(4)%9, 200+draw(5)%9, ip^(1+draw(6)%7)
	body := someBytes(draw(7)%40, seed)
	mine := to != "other"
	a := impl.Arp{Kind: 1 + draw(8)%2, SrcHw: hw, SrcIp: from, DstHw: draw(9), DstIp: ip}
	p := impl.Packet{Src: from, Dst: ip, Ttl: 1 + draw(8)%255, Proto: 6, Id: draw(9), Body: body}
	arp := func() string { return arpFrame(dst, src, a) + body }
	packet := func() string { return ipFrame(dst, src, p) + body }
	dropped := func(name, raw string) linkDraw { return linkDraw{name: name + " to " + to, raw: raw} }
	switch draw(10) % 12 {
	case 0, 1, 2:
		return linkDraw{"message to " + to, arp(), mine, from, hw, a.Kind % 2}
	case 3, 4, 5:
		return linkDraw{"packet to " + to, packet(), mine, from, src, 2}
	case 6:
		a.DstIp ^= 1 << (draw(9) % 32)
		return dropped("message for another", arp())
	case 7:
		p.Dst ^= 1 << (draw(9) % 32)
		return dropped("packet for another", packet())
	case 8:
		p.Src = ip
		return dropped("packet from the own address", packet())
	case 9:
		p.Proto = []int{1, 17, 7, 2, 0, 255}[draw(9)%6]
		return dropped("packet of another protocol", packet())
	case 10:
		return dropped("frame of another type", replaced([]string{arp(), packet()}[draw(9)%2], 12, wideBytes(2049+draw(9)%5, 2)))
	}
	switch draw(9) % 4 {
	case 0:
		return dropped("short frame", packet()[:draw(7)%14])
	case 1:
		return dropped("cut message", arp()[:14+draw(7)%28])
	case 2:
		return dropped("cut packet", packet()[:14+draw(7)%20])
	}
	return dropped("changed packet", replaced(packet(), 24, wideBytes(int(packet()[24])^1<<(draw(7)%8), 1)))
}

// Long runs of frames of every kind. What a link should know is kept in a journal.
func TestFramesForOthersChangeNothing(t *testing.T) {
	met := map[string]int{}
	for run, host := range []struct{ mac, ip int }{{hereMac, hereIp}, {0, 0}, {mostHw - 1, mostIp}, {5, 5}, {1 << 47, 1 << 31}, {255, 7}} {
		l := linkWith(host.mac, host.ip)
		kept := &journal{hws: map[int]int{}, met: map[int]int{}}
		for n := range 6000 {
			drawn := drawFrame(host.mac, host.ip, n*6+run)
			given, unchanged := guardedLink(l)
			got := linkIn(given, drawn.raw)
			if !unchanged() || !equalOutcomes(got, outcomeOf(l, drawn.raw)) {
				t.Fatalf("after %d frames, LinkIn(%s, %.80q) = %s", n, linkShown(l), drawn.raw, outcomeShown(got))
			}
			if drawn.mine {
				kept.learn(drawn.ip, drawn.hw)
			} else if !impl.SameLink(got.link, l) || got.kind != impl.LkDrop || got.packet != (impl.Packet{}) || got.text != "" {
				t.Fatalf("after %d frames, a %s changed %s to %s", n, drawn.name, linkShown(l), outcomeShown(got))
			}
			if hw, ok := impl.HwOf(got.link.Cache, drawn.ip); drawn.mine && (got.kind != drawn.kind || hw != drawn.hw || !ok) {
				t.Fatalf("after %d frames, a %s changed %s to %s", n, drawn.name, linkShown(l), outcomeShown(got))
			}
			if got.kind == impl.LkPacket && (got.packet.Src != drawn.ip || got.packet.Dst != host.ip) {
				t.Fatalf("after %d frames, the packet is %s", n, packetShown(got.packet))
			}
			if l = got.link; !impl.LinkOk(l) || l.Mac != host.mac || l.Ip != host.ip || !slices.Equal(l.Cache, kept.list()) {
				t.Fatalf("after %d frames, the link is %s, want %v", n, linkShown(l), kept.list())
			}
			met[drawn.name]++
			if n%3 == 0 {
				l.Cache = impl.Aged(l.Cache)
				kept.tick()
			}
		}
	}
	for _, name := range slices.Sorted(maps.Keys(met)) {
		if met[name] < 50 {
			t.Errorf("there were %d frames of the kind %q", met[name], name)
		}
	}
	if len(met) != 33 {
		t.Errorf("there were %d kinds of frames: %v", len(met), met)
	}
}

// Every function returns, and returns the same again, whatever it is given.
func TestLinkIsTotal(t *testing.T) {
	defer func() {
		if r := recover(); r != nil {
			t.Fatalf("panic: %v", r)
		}
	}()
	for _, n := range farInts {
		for _, m := range farInts {
			for _, l := range []impl.Link{linkWith(n, m), linkWith(hereMac, m, entry(n, m, 3)), linkWith(n, hereIp, entry(m, n, m), entry(n, m, n))} {
				checkLinkOk(t, l, validLink(l))
				for _, dst := range []int{l.Mac, mostHw} {
					checkLinkIn(t, l, arpFrame(dst, n, impl.Arp{Kind: 1, SrcHw: m, SrcIp: n, DstHw: n, DstIp: l.Ip}))
					checkLinkIn(t, l, arpFrame(dst, n, impl.Arp{Kind: 2, SrcHw: m, SrcIp: n, DstHw: n, DstIp: l.Ip}))
					checkLinkIn(t, l, ipFrame(dst, m, impl.Packet{Src: n, Dst: l.Ip, Ttl: 1, Proto: 6, Body: "x"}))
					checkLinkIn(t, l, ipFrame(dst, m, impl.Packet{Src: l.Ip, Dst: n, Ttl: n, Proto: m}))
				}
				checkLinkOut(t, l, n, "x")
				checkLinkOut(t, l, m, "")
				checkSameLinks(t, l, linkWith(m, n), equalLinks(l, linkWith(m, n)))
			}
		}
	}
	for seed := range 20000 {
		var list []impl.Entry
		for i := range seed % 7 {
			list = append(list, entry(someInt(seed+i), someInt(seed+2*i+1), someInt(seed+3*i+2)))
		}
		raw := someBytes(seed%90, seed)
		wild, tame := linkWith(someInt(seed), someInt(seed+1), list...), linkWith(someInt(seed)&mostHw, someInt(seed+1)&mostIp, someCache(seed)...)
		for _, l := range []impl.Link{wild, tame} {
			checkLinkOk(t, l, validLink(l))
			checkLinkIn(t, l, raw)
			checkLinkIn(t, l, wideBytes(l.Mac, 6)+raw)
			checkLinkIn(t, l, frameBytes(impl.Frame{Dst: mostHw, Src: 5, Type: []int{0x0800, 0x0806}[seed%2], Body: raw}))
			checkLinkOut(t, l, someInt(seed+2)&7, raw)
		}
		checkSameLinks(t, wild, tame, equalLinks(wild, tame))
	}
}

// linkCalls are calls of LinkIn that answer a cache, most of them the cache
// unchanged.
func linkCalls() map[string]func([]impl.Entry) []impl.Entry {
	calls := map[string]func([]impl.Entry) []impl.Entry{}
	add := func(name string, mac, ip int, raw string) {
		calls[name] = func(list []impl.Entry) []impl.Entry {
			l, _, _, _ := impl.LinkIn(impl.Link{Mac: mac, Ip: ip, Cache: list}, raw)
			return l.Cache
		}
	}
	good := goodFrames(hereMac, hereIp)
	add("a question", hereMac, hereIp, good[0])
	add("an answer", hereMac, hereIp, good[1])
	add("a packet", hereMac, hereIp, good[2])
	add("a known host's packet", hereMac, hereIp+1, ipFrame(mostHw, 5, impl.Packet{Src: fromIp, Dst: hereIp + 1, Ttl: 1, Proto: 6}))
	add("no Mac", mostHw, hereIp, goodFrames(mostHw, hereIp)[2])
	add("no Ip", hereMac, mostIp+1, good[2])
	add("no frame", hereMac, hereIp, "")
	add("another's frame", hereMac, hereIp, goodFrames(otherMac, hereIp)[2])
	add("another type", hereMac, hereIp, replaced(good[2], 12, "\x08\x01"))
	add("no message", hereMac, hereIp, good[0][:30])
	add("another's message", hereMac, hereIp, arpFrame(mostHw, thereMac, arpOf(1, otherIp)))
	add("no packet", hereMac, hereIp, good[2][:30])
	add("another's packet", hereMac, hereIp, ipFrame(hereMac, thereMac, packetTo(otherIp, "")))
	add("the own packet", hereMac, thereIp, ipFrame(hereMac, thereMac, packetTo(thereIp, "")))
	return calls
}

func TestLinkAnswersAreNew(t *testing.T) {
	calls := linkCalls()
	if len(calls) != 14 {
		t.Fatalf("there are %d calls", len(calls))
	}
	for _, list := range slices.Concat(goodCaches(), refusedCaches()) {
		for _, name := range slices.Sorted(maps.Keys(calls)) {
			checkOwnMemory(t, "LinkIn of "+name, list, cacheGuard, calls[name])
			checkOwnMemory(t, "LinkIn of "+name, list[len(list)/2:], cacheGuard, calls[name])
		}
	}
	// A change of one answer is not seen in the next.
	for n := range 100 {
		for _, raw := range append(goodFrames(hereMac, hereIp), "") {
			l := hereWith(fullCache()...)
			checkLinkIn(t, l, raw)
			overwrite(linkIn(l, raw).link.Cache, entry(n, n, n))
			if !equalLinks(l, hereWith(fullCache()...)) {
				t.Fatalf("after %d changes, the link is %s", n, linkShown(l))
			}
		}
	}
}

// Reading a part of a string reads and changes nothing outside of it.
func TestLinkArgumentsUnchanged(t *testing.T) {
	l := hereWith(fullCache()...)
	for _, raw := range goodFrames(hereMac, hereIp) {
		whole := raw + raw + raw
		kept := strings.Clone(whole)
		for from := range len(whole) {
			for to := from; to <= len(whole); to += 1 + from%3 {
				if got, want := linkIn(l, whole[from:to]), linkIn(l, strings.Clone(kept[from:to])); !equalOutcomes(got, want) || whole != kept {
					t.Errorf("LinkIn of %d to %d = %s, want %s", from, to, outcomeShown(got), outcomeShown(want))
				}
			}
		}
	}
	body := someBytes(300, 4)
	known := hereWith(entry(thereIp, thereMac, 3))
	for from := range len(body) {
		checkLinkOut(t, known, thereIp, body[from:])
		checkLinkOut(t, known, thereIp, body[:from])
	}
}

// The same call answers the same, however often it is repeated, and whatever was
// called in between.
func TestLinkRepeats(t *testing.T) {
	l := hereWith(entry(thereIp, 5, 6), entry(otherIp, otherMac, 9))
	frames := append(goodFrames(hereMac, hereIp), goodFrames(otherMac, hereIp)...)
	sent, _ := sentBytes(l, otherIp, "body")
	for n := range 3000 {
		raw := frames[n%len(frames)]
		if got := linkIn(l, raw); !equalOutcomes(got, outcomeOf(l, raw)) {
			t.Fatalf("LinkIn(%s, %.80q) = %s after %d times", linkShown(l), raw, outcomeShown(got), n)
		}
		if got, ok := impl.LinkOut(l, otherIp, "body"); got != sent || !ok {
			t.Fatalf("LinkOut(%s, ..) = %q, %v after %d times", linkShown(l), got, ok, n)
		}
		if !impl.LinkOk(l) || impl.LinkOk(hereWith(entriesOf(5)...)) || !impl.SameLink(l, l) || impl.SameLink(l, hereWith(someCache(n)...)) {
			t.Fatalf("LinkOk or SameLink is wrong after %d times", n)
		}
		other := linkWith(n, n+1, someCache(n)...)
		impl.LinkIn(other, goodFrames(n, n+1)[n%4])
		impl.LinkOut(other, n%9, raw)
	}
}

// No call depends on other calls, before it or at the same time.
func TestLinkKeepsNothing(t *testing.T) {
	shared := hereWith(fullCache()...)
	checkAtOnce(t, func(worker int, faults map[string]int) {
		for n := range 1000 {
			seed := n + 31*worker
			for _, l := range []impl.Link{shared, linkWith(seed, 2*seed, someCache(seed)...), hereWith(entriesOf(seed % 6)...)} {
				raw := drawFrame(l.Mac, l.Ip, seed).raw
				if impl.LinkOk(l) != validLink(l) {
					faults["LinkOk"]++
				}
				if !equalOutcomes(linkIn(l, raw), outcomeOf(l, raw)) {
					faults["LinkIn"]++
				}
				ip := someInt(seed) & 7
				got, ok := impl.LinkOut(l, ip, raw)
				if want, wantOk := sentBytes(l, ip, raw); got != want || ok != wantOk {
					faults["LinkOut"]++
				}
				if impl.SameLink(l, shared) != equalLinks(l, shared) {
					faults["SameLink"]++
				}
			}
		}
	})
}

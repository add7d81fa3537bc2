"""What the tests share: calls as lists, answers call by call, and cards made apart from the program."""

from doorcardsdesk.house import answers

KEY = list(range(16))
OTHER_KEY = list(range(100, 116))
TOP = 4294967295
MOST = 65535

GUEST, STAFF, SHUTTING, EMERGENCY = 1, 2, 3, 4


def begin(key=KEY):
    return [0, len(key)] + list(key)


def room(zone):
    return [1, zone]


def day(d):
    return [2, d]


def come(place, last):
    return [3, place, last]


def copy(place):
    return [4, place]


def lost(place):
    return [5, place]


def longer(place, last):
    return [6, place, last]


def leave(place):
    return [7, place]


def shut(place):
    return [8, place]


def staff(zones, last):
    return [9, zones, last]


def recall():
    return [10]


def need(last):
    return [11, last]


def whose(card):
    return [12, len(card)] + list(card)


def stay(place):
    return [13, place]


def free():
    return [14]


def desk():
    return [15]


def hang(place):
    return [16, place]


def doorday(at, d):
    return [17, at, d]


def show_to(at, given):
    """The call open, whose name is Python's own."""
    return [18, at, len(given)] + list(given)


def would(at, given):
    return [19, at, len(given)] + list(given)


def show(at, k):
    return [20, at, k]


def kept(k):
    """The call card."""
    return [21, k]


def bolt(at, on):
    return [22, at, on]


def book(at, k):
    return [23, at, k]


def door(at):
    return [24, at]


def everywhere(d):
    """The call all, whose name is Python's own."""
    return [25, d]


def parted(told):
    """The program's one list as a list an answer."""
    parts = []
    at = 0
    while at < len(told):
        count = told[at]
        part = told[at + 1:at + 1 + count]
        assert len(part) == count, "the list ends within an answer"
        parts.append(part)
        at += 1 + count
    return parts


def ask(*calls):
    """The answers to these calls, a list each."""
    parts = parted(answers([number for call in calls for number in call]))
    assert len(parts) == len(calls), "another count of answers than of calls"
    return parts


def last_of(*calls):
    return ask(*calls)[-1]


def siphash(key, message):
    """SipHash-2-4 by the document's steps, written apart from the program, over Python's bytes."""
    full = (1 << 64) - 1

    def turn(x, n):
        bits = format(x, "064b")
        return int(bits[n:] + bits[:n], 2)

    def rounds(v, n):
        a, b, c, d = v
        for _ in range(n):
            a = (a + b) & full
            b = turn(b, 13) ^ a
            a = turn(a, 32)
            c = (c + d) & full
            d = turn(d, 16) ^ c
            a = (a + d) & full
            d = turn(d, 21) ^ a
            c = (c + b) & full
            b = turn(b, 17) ^ c
            c = turn(c, 32)
        return a, b, c, d

    key, message = bytes(key), bytes(message)
    k = int.from_bytes(key[:8], "little")
    l = int.from_bytes(key[8:], "little")
    v = (8317987319222330741 ^ k, 7237128888997146477 ^ l, 7816392313619706465 ^ k, 8387220255154660723 ^ l)
    filled = message + bytes(7 - len(message) % 8) + bytes([len(message) % 256])
    for at in range(0, len(filled), 8):
        m = int.from_bytes(filled[at:at + 8], "little")
        a, b, c, d = rounds((v[0], v[1], v[2], v[3] ^ m), 2)
        v = (a ^ m, b, c, d)
    a, b, c, d = rounds((v[0], v[1], v[2] ^ 255, v[3]), 4)
    return list((a ^ b ^ c ^ d).to_bytes(8, "little"))


def card(kind, place, number, last, serial, key=KEY):
    """A card's 16 bytes, made apart from the program."""
    said = bytes([kind, place])
    for value in (number, last, serial):
        said += value.to_bytes(2, "little")
    return list(said) + siphash(key, said)


def made(kind, place, number, last, serial, key=KEY):
    """What is answered where this card is made."""
    return [serial] + card(kind, place, number, last, serial, key)


# Asked behind other calls, these tell all that the house has, and change nothing.
TELLING = (
    [desk(), free()]
    + [stay(place) for place in range(5)]
    + [door(at) for at in range(17)]
    + [book(at, k) for at in range(3) for k in range(17)]
    + [kept(k) for k in range(65)]
)

# These show it by what is done then, too.
PROBES = (
    TELLING
    + [show(at, k) for at in range(3) for k in range(4)]
    + [copy(place) for place in range(4)]
    + [shut(place) for place in range(4)]
    + [staff(255, MOST), need(MOST), recall(), room(0), hang(0), hang(3), day(MOST)]
    + [leave(place) for place in range(4)]
    + [come(place, MOST) for place in range(4)]
    + TELLING
)


def check_changes_nothing(test, answer, before, call):
    """That the call answers this, and all is behind it as it was."""
    told = ask(*before, call, *PROBES)
    test.assertEqual(told[len(before)], answer)
    del told[len(before)]
    test.assertEqual(told, ask(*before, *PROBES))


def check_refused(test, number, before, call):
    check_changes_nothing(test, [number], before, call)


def mixed_call(chance, now):
    """A call of any but begin, as often answered as refused, where few rooms and doors are; the day is about now."""
    place = chance.choice((0, 0, 0, 1, 1, 1, 2, 2, 3, 4, TOP))
    at = chance.choice((0, 0, 0, 1, 1, 1, 2, 2, 3, TOP))
    k = chance.choice((0, 0, 0, 1, 1, 2, 3, 4, 5, 8, 15, 16, 63, 64, TOP))
    d = chance.choice((now, now, now, now + 1, now + 2, max(now - 1, 0), MOST + 1))
    last = chance.choice((now, now + 1, now + 3, now + 9, MOST, max(now - 1, 0), MOST + 1))
    number = chance.choice((0, 1, 1, 2, 2, 3, 4, 6))
    known = card(chance.choice((1, 1, 2, 3, 4)), chance.choice((0, 1, 2, 255)), number, last % 65536, number)
    shown = chance.choice((known, known, known, known[:15]))
    calls = (
        (1, room(chance.choice((0, 7, 8)))), (2, day(d)), (6, come(place, last)), (2, copy(place)), (3, lost(place)),
        (3, longer(place, last)), (3, leave(place)), (3, shut(place)), (3, staff(chance.randrange(258), last)),
        (2, recall()), (3, need(last)), (2, whose(shown)), (2, stay(place)), (1, free()), (1, desk()),
        (3, hang(place)), (2, doorday(at, d)), (2, show_to(at, shown)), (2, would(at, shown)), (12, show(at, k)),
        (2, kept(k)), (4, bolt(at, chance.choice((0, 0, 1, 2)))), (2, book(at, k)), (2, door(at)), (3, everywhere(d)),
    )
    return chance.choices([call for weight, call in calls], [weight for weight, call in calls])[0]


def mixed_calls(chance, count, pace=12):
    """So many calls in a house of three rooms and two doors at first, in which a day goes by every so many."""
    start = [begin(), room(0), room(7), room(3), hang(0), hang(1)]
    return start + [mixed_call(chance, n // pace) for n in range(count)]

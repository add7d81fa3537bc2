"""What the tests share: calls as lists, answers call by call, and cards made apart from the program."""

from doorcardsdesk.house import answers

KEY = list(range(16))
OTHER_KEY = list(range(100, 116))
TOP = 4294967295
MOST = 65535

GUEST, STAFF, SHUTTING, EMERGENCY = 1, 2, 3, 4


def begin(key=KEY):
    return [0, len(key)] + list(key)


def room(zone):
    return [1, zone]


def day(d):
    return [2, d]


def come(place, last):
    return [3, place, last]


def copy(place):
    return [4, place]


def lost(place):
    return [5, place]


def longer(place, last):
    return [6, place, last]


def leave(place):
    return [7, place]


def shut(place):
    return [8, place]


def staff(zones, last):
    return [9, zones, last]


def recall():
    return [10]


def need(last):
    return [11, last]


def whose(card):
    return [12, len(card)] + list(card)


def parted(told):
    """The program's one list as a list an answer."""
    parts = []
    at = 0
    while at < len(told):
        count = told[at]
        part = told[at + 1:at + 1 + count]
        assert len(part) == count, "the list ends within an answer"
        parts.append(part)
        at += 1 + count
    return parts


def ask(*calls):
    """The answers to these calls, a list each."""
    parts = parted(answers([number for call in calls for number in call]))
    assert len(parts) == len(calls), "another count of answers than of calls"
    return parts


def last_of(*calls):
    return ask(*calls)[-1]


def siphash(key, message):
    """SipHash-2-4 by the document's steps, written apart from the program, over Python's bytes."""
    full = (1 << 64) - 1

    def turn(x, n):
        bits = format(x, "064b")
        return int(bits[n:] + bits[:n], 2)

    def rounds(v, n):
        a, b, c, d = v
        for _ in range(n):
            a = (a + b) & full
            b = turn(b, 13) ^ a
            a = turn(a, 32)
            c = (c + d) & full
            d = turn(d, 16) ^ c
            a = (a + d) & full
            d = turn(d, 21) ^ a
            c = (c + b) & full
            b = turn(b, 17) ^ c
            c = turn(c, 32)
        return a, b, c, d

    key, message = bytes(key), bytes(message)
    k = int.from_bytes(key[:8], "little")
    l = int.from_bytes(key[8:], "little")
    v = (8317987319222330741 ^ k, 7237128888997146477 ^ l, 7816392313619706465 ^ k, 8387220255154660723 ^ l)
    filled = message + bytes(7 - len(message) % 8) + bytes([len(message) % 256])
    for at in range(0, len(filled), 8):
        m = int.from_bytes(filled[at:at + 8], "little")
        a, b, c, d = rounds((v[0], v[1], v[2], v[3] ^ m), 2)
        v = (a ^ m, b, c, d)
    a, b, c, d = rounds((v[0], v[1], v[2] ^ 255, v[3]), 4)
    return list((a ^ b ^ c ^ d).to_bytes(8, "little"))


def card(kind, place, number, last, serial, key=KEY):
    """A card's 16 bytes, made apart from the program."""
    said = bytes([kind, place])
    for value in (number, last, serial):
        said += value.to_bytes(2, "little")
    return list(said) + siphash(key, said)


def made(kind, place, number, last, serial, key=KEY):
    """What is answered where this card is made."""
    return [serial] + card(kind, place, number, last, serial, key)


# Asked behind other calls, these show every room's number and stay, the day, the round and the counts.
PROBES = (
    [copy(place) for place in range(4)]
    + [shut(place) for place in range(4)]
    + [staff(255, MOST), need(MOST), recall(), room(0), day(MOST)]
    + [leave(place) for place in range(4)]
    + [come(place, MOST) for place in range(4)]
)


def check_refused(test, number, before, call):
    """That the call is refused with this number, and all is behind it as it was."""
    told = ask(*before, call, *PROBES)
    test.assertEqual(told[len(before)], [number])
    del told[len(before)]
    test.assertEqual(told, ask(*before, *PROBES))

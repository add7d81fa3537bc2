"""Numbers told by bytes, and the tag of a message by a key (SipHash-2-4)."""

LARGEST = 18446744073709551615


def number_of(octets):
    """The number that these bytes tell, the first the least."""
    number = 0
    for octet in reversed(octets):
        number = number * 256 + octet
    return number


def octets_of(number, count):
    """So many bytes that tell the number, the least first."""
    octets = []
    rest = number
    for place in range(count):
        octets.append(rest % 256)
        rest = rest // 256
    return octets


def turned(number, places):
    """The number with its 64 bits turned so many places to the left."""
    return ((number << places) | (number >> (64 - places))) & LARGEST


class Mix:
    """The four numbers into which a message is taken, word by word."""

    def __init__(self, key):
        k = number_of(key[:8])
        l = number_of(key[8:])
        self.a = 8317987319222330741 ^ k
        self.b = 7237128888997146477 ^ l
        self.c = 7816392313619706465 ^ k
        self.d = 8387220255154660723 ^ l

    def stir(self, times):
        """So many rounds."""
        for turn in range(times):
            self.a = (self.a + self.b) & LARGEST
            self.b = turned(self.b, 13) ^ self.a
            self.a = turned(self.a, 32)
            self.c = (self.c + self.d) & LARGEST
            self.d = turned(self.d, 16) ^ self.c
            self.a = (self.a + self.d) & LARGEST
            self.d = turned(self.d, 21) ^ self.a
            self.c = (self.c + self.b) & LARGEST
            self.b = turned(self.b, 17) ^ self.c
            self.c = turned(self.c, 32)

    def take_in(self, word):
        self.d = self.d ^ word
        self.stir(2)
        self.a = self.a ^ word

    def finish(self):
        self.c = self.c ^ 255
        self.stir(4)
        return self.a ^ self.b ^ self.c ^ self.d


def words_of(message):
    """The message as words; the last holds the bytes left and the length."""
    whole = len(message) // 8 * 8
    words = [number_of(message[at:at + 8]) for at in range(0, whole, 8)]
    left = message[whole:]
    padding = [0] * (7 - len(left))
    words.append(number_of(left + padding + [len(message) % 256]))
    return words


def tag_of(key, message):
    """The eight bytes that vouch for the message to whoever has the key."""
    mix = Mix(key)
    for word in words_of(message):
        mix.take_in(word)
    return octets_of(mix.finish(), 8)

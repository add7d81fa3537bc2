import unittest

from doorcardsdesk.tag import number_of, octets_of, tag_of, turned, words_of
from helper import KEY, OTHER_KEY, siphash

# The published answers of SipHash-2-4 by the key 0 to 15, to the messages of the bytes 0, 1, 2 .. of each length.
PUBLISHED = (
    "310e0edd47db6f72", "fd67dc93c539f874", "5a4fa9d909806c0d", "2d7efbd796666785",
    "b7877127e09427cf", "8da699cd64557618", "cee3fe586e46c9cb", "37d1018bf50002ab",
    "6224939a79f5f593", "b0e4a90bdf82009e", "f3b9dd94c5bb5d7a", "a7ad6b22462fb3f4",
    "fbe50e86bc8f1e75", "903d84c02756ea14", "eef27a8e90ca23f7", "e545be4961ca29a1",
)


class TagTest(unittest.TestCase):
    def test_published_answers(self):
        for length, told in enumerate(PUBLISHED):
            message = list(range(length))
            self.assertEqual(bytes(tag_of(KEY, message)).hex(), told)

    def test_every_length_to_300(self):
        # Behind 255 bytes the length's byte begins anew.
        for length in range(301):
            message = [(7 * n + length) % 256 for n in range(length)]
            self.assertEqual(tag_of(OTHER_KEY, message), siphash(OTHER_KEY, message))

    def test_eight_bytes_of_a_card(self):
        for said in ([1, 0, 1, 0, 5, 0, 0, 0], [4, 255, 0, 0, 255, 255, 1, 0], [255] * 8, [0] * 8):
            for key in (KEY, OTHER_KEY, [0] * 16, [255] * 16):
                self.assertEqual(tag_of(key, said), siphash(key, said))

    def test_both_halves_of_the_key_count(self):
        said = [1, 0, 1, 0, 5, 0, 0, 0]
        told = [tag_of(KEY, said)]
        for place in range(16):
            key = list(KEY)
            key[place] ^= 128
            told.append(tag_of(key, said))
        self.assertEqual(len(set(map(tuple, told))), 17)

    def test_what_is_given_is_kept(self):
        key, message = list(KEY), list(range(21))
        tag_of(key, message)
        self.assertEqual((key, message), (KEY, list(range(21))))


class PartsTest(unittest.TestCase):
    def test_numbers_and_bytes_the_least_first(self):
        self.assertEqual(number_of([]), 0)
        self.assertEqual(number_of([2, 1]), 258)
        self.assertEqual(octets_of(258, 2), [2, 1])
        self.assertEqual(octets_of(65535, 2), [255, 255])
        self.assertEqual(octets_of(2 ** 64 - 1, 8), [255] * 8)

    def test_turned_to_the_left(self):
        self.assertEqual(turned(1, 13), 2 ** 13)
        self.assertEqual(turned(2 ** 63, 1), 1)
        self.assertEqual(turned(2 ** 63 + 5, 32), 5 * 2 ** 32 + 2 ** 31)

    def test_words(self):
        self.assertEqual(words_of([]), [0])
        self.assertEqual(words_of([9]), [9 + 2 ** 56])
        self.assertEqual(words_of([1, 1] + [0] * 6), [257, 8 * 2 ** 56])
        self.assertEqual(words_of([0] * 8 + [3]), [0, 3 + 9 * 2 ** 56])


if __name__ == "__main__":
    unittest.main()

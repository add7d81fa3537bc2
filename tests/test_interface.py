import random
import unittest

from doorcardsdesk.house import answers
from helper import (
    EMERGENCY, GUEST, KEY, MOST, OTHER_KEY, TOP, ask, begin, bolt, book, card, come, copy, day, desk, door, doorday,
    everywhere, free, hang, kept, leave, longer, lost, made, mixed_calls, need, parted, recall, room, show, show_to,
    shut, staff, stay, whose, would,
)

SAMPLE = [
    room(0), hang(0), begin(KEY[:15]), begin(), room(0), room(8), day(3), come(0, 9), copy(0), lost(0), longer(0, 12),
    stay(0), leave(0), shut(0), staff(5, 6), recall(), need(4), whose(card(GUEST, 0, 1, 9, 0)), whose([]),
    come(TOP, TOP), free(), desk(), hang(0), hang(0), doorday(0, 3), show_to(0, card(GUEST, 0, 9, 9, 7)),
    would(0, card(GUEST, 0, 8, 9, 7)), show_to(0, [1] * 40), show(0, 0), show(0, 64), kept(1), kept(TOP), bolt(0, 1),
    bolt(0, 2), book(0, 1), book(0, 2), door(0), door(1), everywhere(4), everywhere(0),
    begin(OTHER_KEY), room(7), come(0, MOST), hang(0), show(0, 0), kept(0), door(0), book(0, 0),
]


def joined(calls):
    return [number for call in calls for number in call]


class LayoutTest(unittest.TestCase):
    def test_each_answer_has_its_length_ahead(self):
        told = answers(joined([begin(), room(0), come(0, 5), whose(card(GUEST, 0, 1, 5, 0)), recall(), copy(9)]))
        guests = made(GUEST, 0, 1, 5, 0)
        self.assertEqual(told, [1, 0, 1, 0, 17] + guests + [6, 1, GUEST, 0, 1, 5, 0, 1, 1, 1, -2])

    def test_the_doors_calls(self):
        calls = [begin(), room(5), hang(0), come(0, 9), show(0, 0), bolt(0, 1), stay(0), free(), desk(), kept(0),
                 door(0), book(0, 0), doorday(0, 2), everywhere(3), book(0, 1)]
        guests = card(GUEST, 0, 1, 9, 0)
        self.assertEqual(answers(joined(calls)), (
            [1, 0, 1, 0, 1, 0, 17, 0] + guests + [1, 1, 1, 0, 3, 9, 1, 5, 1, 0, 5, 1, 1, 0, 0, 1, 17, 16] + guests
            + [7, 1, 0, 5, 0, 1, 0, 1, 4, GUEST, 1, 0, 0, 1, 0, 1, 0, 1, -6]
        ))

    def test_the_longest_answer(self):
        self.assertEqual(answers(joined([begin()] + [room(0)] * 64 + [free()]))[-66:], [65, 64] + list(range(64)))

    def test_one_call(self):
        self.assertEqual(answers(begin()), [1, 0])
        self.assertEqual(answers([10]), [1, -61])
        self.assertEqual(answers([0, 0]), [1, -22])

    def test_rows_are_passed_over_whole(self):
        for length in range(41):
            # The row's numbers would be calls if they were read as such.
            self.assertEqual(ask(begin(), whose([10] * length), recall())[1:], [[-71], [1]])
            self.assertEqual(ask(begin([10] * length), begin(), recall())[1:], [[0], [1]])
            told = ask(begin(), room(0), hang(0), show_to(0, [10] * length), would(0, [10] * length), recall())
            self.assertEqual(told[3:], [[-71], [-71], [1]])

    def test_plain_whole_numbers_in_a_plain_list(self):
        told = answers(joined(SAMPLE))
        self.assertIs(type(told), list)
        self.assertEqual({type(number) for number in told}, {int})


class ApartTest(unittest.TestCase):
    def test_what_is_handed_in_is_as_it_was(self):
        calls = joined(SAMPLE)
        before = list(calls)
        answers(calls)
        self.assertEqual(calls, before)

    def test_it_is_not_changed_for_a_while_either(self):
        class Watched(list):
            def refuse(self, *given):
                raise AssertionError("the list was changed")

            append = extend = insert = pop = remove = clear = sort = reverse = refuse
            __setitem__ = __delitem__ = __iadd__ = __imul__ = refuse

        self.assertEqual(answers(Watched(joined(SAMPLE))), answers(joined(SAMPLE)))

    def test_twice_the_same(self):
        calls = joined(SAMPLE)
        first = answers(calls)
        kept = list(first)
        second = answers(calls)
        self.assertEqual(second, kept)
        second.clear()
        self.assertEqual(first, kept)
        self.assertEqual(answers(calls), kept)

    def test_nothing_is_kept_for_the_next_list(self):
        answers(joined(SAMPLE))
        self.assertEqual(answers(recall()), [1, -61])
        self.assertEqual(parted(answers(joined([begin(), copy(0), recall()]))), [[0], [-2], [1]])


class RefusedTest(unittest.TestCase):
    def test_without_the_refused_calls_the_others_answer_the_same(self):
        chance = random.Random(20)
        refused, answered = set(), set()
        for time in range(120):
            calls = mixed_calls(chance, 150)
            told = ask(*calls)
            left = [(call, part) for call, part in zip(calls, told) if part[0] >= 0]
            self.assertEqual(ask(*[call for call, part in left]), [part for call, part in left])
            refused.update((call[0], part[0]) for call, part in zip(calls, told) if part[0] < 0)
            answered.update(call[0] for call, part in left)
        # A sample that never meets these would show nothing.
        self.assertEqual(answered, set(range(26)))
        self.assertLessEqual({
            (1, -22), (2, -22), (3, -2), (3, -22), (3, -15), (4, -2), (4, -6), (5, -2), (5, -6), (6, -2), (6, -6),
            (6, -22), (7, -2), (7, -6), (8, -2), (8, -15), (9, -22), (11, -22), (12, -71), (13, -2), (13, -6),
            (16, -2), (16, -17), (17, -2), (17, -22), (18, -2), (18, -71), (18, -13), (18, -34), (18, -17), (18, -15),
            (19, -2), (19, -71), (19, -13), (19, -34), (19, -17), (19, -15), (20, -2), (20, -6), (20, -13), (20, -34),
            (20, -17), (20, -15), (21, -6), (22, -2), (22, -22), (23, -2), (23, -6), (24, -2), (25, -22),
        }, refused)


class LongTest(unittest.TestCase):
    def test_5000_calls_that_make_cards(self):
        told = ask(begin(), room(0), come(0, 5), *[lost(0)] * 4997)
        self.assertEqual(len(told), 5000)
        for n in (0, 1, 254, 255, 256, 4997):
            self.assertEqual(told[n + 2], made(GUEST, 0, n + 1, 5, n))

    def test_5000_calls_of_one_number(self):
        self.assertEqual(answers([10] * 5000), [1, -61] * 5000)
        told = ask(begin(), *[recall()] * 4999)
        self.assertEqual(told[-1], [4999])

    def test_5000_calls_with_doors_among_them(self):
        rooms = [room(n % 8) for n in range(16)]
        calls = [begin()] + rooms + [hang(n) for n in range(16)] + [come(n, MOST) for n in range(16)]
        start = len(calls)
        for n in range(1236):
            calls += [lost(n % 16), show(n % 16, 0), show(n % 16, 16), door(n % 16)]
        calls += [free(), desk(), book(0, 15), kept(63), everywhere(MOST), need(MOST), show(15, 0)]
        self.assertEqual(len(calls), 5000)
        self.assertLessEqual(len(joined(calls)), 30000)
        told = ask(*calls)
        for n in range(1236):
            at, number = n % 16, n // 16 + 2
            self.assertEqual(told[start + 4 * n:start + 4 * n + 4], [
                made(GUEST, at, number, MOST, 16 + n), [1], [-17], [0, at, at % 8, 0, number, 0, min(number - 1, 16)],
            ])
        self.assertEqual(told[-7:], [
            [0], [16, 16, 0, 0, 1252], [GUEST, 64, 16 + 62 * 16, 0], [16] + card(GUEST, 1188 % 16, 75, MOST, 1188), [0],
            made(EMERGENCY, 255, 0, MOST, 1252), [4],
        ])

    def test_5000_mixed_calls(self):
        calls = mixed_calls(random.Random(5), 4994)
        self.assertLessEqual(len(joined(calls)), 30000)
        self.assertEqual(len(ask(*calls)), 5000)

    def test_30000_numbers(self):
        calls = [begin(), room(1), come(0, 9)] + [whose(card(GUEST, 0, 1, 9, n)) for n in range(1664)]
        self.assertLessEqual(len(joined(calls)), 30000)
        told = ask(*calls)
        self.assertEqual(told[3:], [[1, GUEST, 0, 1, 9, n] for n in range(1664)])


if __name__ == "__main__":
    unittest.main()

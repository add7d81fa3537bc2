import random
import unittest

from doorcardsdesk.house import answers
from helper import (
    GUEST, KEY, MOST, OTHER_KEY, TOP, ask, begin, card, come, copy, day, leave, longer, lost, made, need, parted,
    recall, room, shut, staff, whose,
)

SAMPLE = [
    room(0), begin(KEY[:15]), begin(), room(0), room(8), day(3), come(0, 9), copy(0), lost(0), longer(0, 12), leave(0),
    shut(0), staff(5, 6), recall(), need(4), whose(card(GUEST, 0, 1, 9, 0)), whose([]), come(TOP, TOP),
    begin(OTHER_KEY), room(7), come(0, MOST),
]


def joined(calls):
    return [number for call in calls for number in call]


def some_call(chance):
    """A call that is as often answered as refused, in a house of few rooms and days."""
    place = chance.choice((0, 0, 1, 1, 2, 3, TOP))
    last = chance.choice((0, 5, 10, 20, 30, 40, MOST, MOST + 1))
    seen = card(chance.choice((1, 1, 2, 3, 4)), chance.choice((0, 1, 255)), chance.randrange(4), last % 65536, 0)
    return chance.choice((
        room(chance.choice((0, 7, 8))), day(chance.choice((0, 1, 2, 4, 8, 12, 16))), come(place, last), come(place, last),
        copy(place), lost(place), longer(place, last), leave(place), shut(place), staff(chance.randrange(258), last),
        recall(), need(last), whose(seen), whose(seen), begin(KEY[:chance.choice((0, 3, 15))]),
    ))


class LayoutTest(unittest.TestCase):
    def test_each_answer_has_its_length_ahead(self):
        told = answers(joined([begin(), room(0), come(0, 5), whose(card(GUEST, 0, 1, 5, 0)), recall(), copy(9)]))
        guests = made(GUEST, 0, 1, 5, 0)
        self.assertEqual(told, [1, 0, 1, 0, 17] + guests + [6, 1, GUEST, 0, 1, 5, 0, 1, 1, 1, -2])

    def test_one_call(self):
        self.assertEqual(answers(begin()), [1, 0])
        self.assertEqual(answers([10]), [1, -61])
        self.assertEqual(answers([0, 0]), [1, -22])

    def test_rows_are_passed_over_whole(self):
        for length in range(41):
            # The row's numbers would be calls if they were read as such.
            self.assertEqual(ask(begin(), whose([10] * length), recall())[1:], [[-71], [1]])
            self.assertEqual(ask(begin([10] * length), begin(), recall())[1:], [[0], [1]])

    def test_plain_whole_numbers_in_a_plain_list(self):
        told = answers(joined(SAMPLE))
        self.assertIs(type(told), list)
        self.assertEqual({type(number) for number in told}, {int})


class ApartTest(unittest.TestCase):
    def test_what_is_handed_in_is_as_it_was(self):
        calls = joined(SAMPLE)
        before = list(calls)
        answers(calls)
        self.assertEqual(calls, before)

    def test_it_is_not_changed_for_a_while_either(self):
        class Watched(list):
            def refuse(self, *given):
                raise AssertionError("the list was changed")

            append = extend = insert = pop = remove = clear = sort = reverse = refuse
            __setitem__ = __delitem__ = __iadd__ = __imul__ = refuse

        self.assertEqual(answers(Watched(joined(SAMPLE))), answers(joined(SAMPLE)))

    def test_twice_the_same(self):
        calls = joined(SAMPLE)
        first = answers(calls)
        kept = list(first)
        second = answers(calls)
        self.assertEqual(second, kept)
        second.clear()
        self.assertEqual(first, kept)
        self.assertEqual(answers(calls), kept)

    def test_nothing_is_kept_for_the_next_list(self):
        answers(joined(SAMPLE))
        self.assertEqual(answers(recall()), [1, -61])
        self.assertEqual(parted(answers(joined([begin(), copy(0), recall()]))), [[0], [-2], [1]])


class RefusedTest(unittest.TestCase):
    def test_without_the_refused_calls_the_others_answer_the_same(self):
        chance = random.Random(20)
        refused, answered = set(), set()
        for time in range(60):
            calls = [begin(), room(0), room(3)] + [some_call(chance) for n in range(120)]
            told = ask(*calls)
            kept = [call for call, part in zip(calls, told) if part[0] >= 0]
            self.assertEqual(ask(*kept), [part for part in told if part[0] >= 0])
            refused.update((call[0], part[0]) for call, part in zip(calls, told) if part[0] < 0)
            answered.update(call[0] for call in kept)
        # A sample that never meets these would show nothing.
        self.assertEqual(answered, set(range(13)))
        self.assertLessEqual({
            (0, -22), (1, -22), (2, -22), (3, -2), (3, -22), (3, -15), (4, -2), (4, -6), (5, -2), (5, -6), (6, -2),
            (6, -6), (6, -22), (7, -2), (7, -6), (8, -2), (8, -15), (9, -22), (11, -22), (12, -71),
        }, refused)


class LongTest(unittest.TestCase):
    def test_5000_calls_that_make_cards(self):
        told = ask(begin(), room(0), come(0, 5), *[lost(0)] * 4997)
        self.assertEqual(len(told), 5000)
        for n in (0, 1, 254, 255, 256, 4997):
            self.assertEqual(told[n + 2], made(GUEST, 0, n + 1, 5, n))

    def test_5000_calls_of_one_number(self):
        self.assertEqual(answers([10] * 5000), [1, -61] * 5000)
        told = ask(begin(), *[recall()] * 4999)
        self.assertEqual(told[-1], [4999])

    def test_30000_numbers(self):
        calls = [begin(), room(1), come(0, 9)] + [whose(card(GUEST, 0, 1, 9, n)) for n in range(1664)]
        self.assertLessEqual(len(joined(calls)), 30000)
        told = ask(*calls)
        self.assertEqual(told[3:], [[1, GUEST, 0, 1, 9, n] for n in range(1664)])


if __name__ == "__main__":
    unittest.main()

"""The whole: all seven calls on one object, refused calls among them, cases as large as they may be."""

import random
import unittest

from passpatterns.lists import answers
from tests.helper import add, becomes, drop, fits, last, least, lists, numbers_of, rule, run
from tests.test_against_reference import made_calls

REFUSED = (
    (add("/", "a"), [-1]),
    (add("", "a" * 513), [-2]),
    (add("", "a\n!b\n["), [-3, 3]),
    (add("", "\n".join(["a"] * 65)), [-4]),
    (drop(16), [-1]),
    (becomes("a//b"), [-1]),
    (becomes("", 1), [-1]),
    (rule(16, 1), [-1]),
    (rule(0, 0), [-1]),
    (rule(0, 600), [-1]),
    (fits("[", "a"), [-1]),
    (fits("", "."), [-1]),
    (fits("a", ".", 1), [-2]),
    (least("!a"), [-1]),
    (least("a", "b", "c"), [-1]),
    (least("a", "\\"), [-1]),
)


def as_many_as_may_be(first, call):
    """The first calls, and the call behind them as often as a case may have it."""
    calls = list(first)
    while len(calls) < 400 and (len(calls) + 1) * (sum(map(numbers_of, calls)) + numbers_of(call) + 1000) <= 1000000:
        calls.append(call)
    return calls


class Mixed(unittest.TestCase):
    def test_all_seven_on_one_object(self):
        given = run(
            lists(), rule(0, 1), add("", "*.o\n!x.o\n"), rule(0, 1), rule(0, 2), rule(0, 3), rule(0, 4), becomes("a.o"),
            becomes("x.o"), fits("*.o", "x.o"), least("*.o", "x*"), add("d", "/x.o\nb/"), rule(1, 1), rule(1, 2),
            becomes("d/x.o"), becomes("d/b/c"), becomes("b", 1), lists(), drop(0), rule(0, 1), rule(1, 1), becomes("a.o"),
            becomes("d/x.o"), lists(), least("d/**", "x.o"), fits("!b/", "d/b", 1))
        self.assertEqual(given, [
            [0], [-1], [0], [1], [3], [0], [-1], [2, 0, 1],
            [1, 0, 2], [1], [1, 3, 120, 46, 111], [1], [9], [5],
            [2, 1, 1], [2, 1, 2], [0], [2], [0], [9], [-1], [0],
            [2, 0, 1], [1], [1, 5, 100, 47, 120, 46, 111], [1]])

    def test_refused_calls_are_refused(self):
        for call, refusal in REFUSED:
            self.assertEqual(last(call), refusal)

    def test_a_refused_call_changes_nothing_of_what_the_others_answer(self):
        for seed in range(60):
            source = random.Random(seed)
            calls = [call for call, expected in made_calls(source, 40)]
            alone = run(*calls)
            with_refused = []
            own = []
            for call in calls:
                with_refused += source.sample([refused for refused, refusal in REFUSED], 2)
                own.append(len(with_refused))
                with_refused.append(call)
            given = run(*with_refused)
            self.assertEqual([given[place] for place in own], alone, seed)
            for place, answered in enumerate(given):
                if place not in own:
                    self.assertLess(answered[0], 0)

    def test_questions_change_nothing_of_what_the_others_answer(self):
        for seed in range(60):
            calls = [call for call, expected in made_calls(random.Random(seed), 60)]
            given = run(*calls)
            changing = [place for place, call in enumerate(calls) if call[0] in (0, 1)]
            self.assertEqual(run(*[calls[place] for place in changing]), [given[place] for place in changing], seed)

    def test_nothing_is_changed_and_nothing_kept(self):
        first = {}
        for time in range(2):
            for seed in range(40):
                numbers = [number for call, expected in made_calls(random.Random(seed), 40) for number in call]
                before = list(numbers)
                given = answers(numbers)
                self.assertEqual(numbers, before)
                self.assertEqual(first.setdefault(seed, list(given)), given)
                given.clear()


class Large(unittest.TestCase):
    def test_many_calls_of_each_kind(self):
        full = add("", "\n".join(["!**/*a*/**/*a*/**/*a*/**/*a*/"] * 16))
        for first, call, answered in (
            ([full] * 4, becomes("a/" * 127 + "ab"), [0]),
            ([full] * 4, becomes("a/" * 127 + "ab", 1), [1, 3, 16]),
            ([add("", "*" * 512)] * 4, becomes("b" * 256), [2, 3, 1]),
            ([add("", "**/" * 170)] * 4, becomes("a/" * 127 + "ab", 1), [2, 3, 1]),
            ([add("", "\n" * 512)] * 4, rule(3, 513), [0]),
            ([], fits("*?" * 64, list(range(1, 47)) + list(range(48, 256))), [1]),
            ([], fits("**/*a*/" * 18, "a/" * 127 + "ab", 1), [1]),
            ([], least("**/*a/**/*b/**/*c/**/*d/", "*/**/*d/**/*c/**/*b/**/a"), [0]),
        ):
            calls = as_many_as_may_be(first, call)
            with self.subTest(call=call[:9], calls=len(calls)):
                self.assertGreater(len(calls), 40)
                self.assertEqual(run(*calls), [[number] for number in range(len(first))]
                                 + [answered] * (len(calls) - len(first)))


if __name__ == "__main__":
    unittest.main()

"""The form of what is handed in and given back, and that nothing else is done."""

import contextlib
import io
import unittest

from keptrecords.house import answers
from tests.saying import calls_of, random_texts, say_all


class Form(unittest.TestCase):
    def test_one_call(self):
        self.assertEqual(answers([1, 10] + [ord(sign) for sign in "person ann"] + [0]), [3, 2, 111, 107])

    def test_minus_one_stands_alone(self):
        self.assertEqual(answers([1, 1, 31, 0]), [1, -1])

    def test_text_of_no_bytes(self):
        self.assertEqual(answers([1, 0, 0]), [8, 7] + [ord(sign) for sign in "no form"])

    def test_several_calls(self):
        calls = [1, 4] + [ord(sign) for sign in "asks"] + [0, 1, 1, 127, 0, 1, 0, 0]
        self.assertEqual(answers(calls), [2, 1, 48, 1, -1, 8, 7] + [ord(sign) for sign in "no form"])

    def test_byte_ten_in_lists(self):
        told = answers(calls_of(["person ann", "hold a ann any", "put ann mail", "why 0"]))
        self.assertEqual(told[-9:], [8, 49, 10, 97, 32, 104, 111, 108, 100])

    def test_kinds(self):
        told = answers(calls_of(["person ann", [5], "tell ann"]))
        self.assertIs(type(told), list)
        self.assertEqual({type(number) for number in told}, {int})

    def test_numbers_of_a_text_that_look_like_calls(self):
        self.assertEqual(say_all([[1, 4, 0], [0], "asks"]), [-1, -1, "0"])

    def test_sixty_calls(self):
        told = say_all(["tick 400"] * 60)
        self.assertEqual(told[-1], "ok 24000")


class NothingElse(unittest.TestCase):
    def test_what_is_handed_in_is_as_it_was(self):
        for seed in range(20):
            calls = calls_of(random_texts(seed, 60))
            before = list(calls)
            answers(calls)
            self.assertEqual(calls, before)

    def test_what_is_handed_in_is_never_changed(self):
        class Watched(list):
            def refuse(self, *things):
                raise AssertionError("what is handed in was changed")

            __setitem__ = __delitem__ = __iadd__ = refuse
            append = extend = insert = pop = remove = clear = sort = reverse = refuse

        answers(Watched(calls_of(random_texts(3, 60))))

    def test_a_second_time_gives_the_same(self):
        for seed in range(20):
            calls = calls_of(random_texts(seed, 60))
            self.assertEqual(answers(calls), answers(calls))

    def test_nothing_is_kept_from_one_time_to_the_next(self):
        self.assertEqual(say_all(["person ann", "person ann"]), ["ok", "no name"])
        self.assertEqual(say_all(["tell ann", "person ann", "tick 1"]), ["no person", "ok", "ok 1"])

    def test_what_is_given_back_is_its_callers(self):
        calls = calls_of(["person ann", "asks"])
        first = answers(calls)
        first.clear()
        self.assertEqual(answers(calls), [3, 2, 111, 107, 2, 1, 48])

    def test_nothing_is_printed(self):
        out = io.StringIO()
        with contextlib.redirect_stdout(out), contextlib.redirect_stderr(out):
            answers(calls_of(random_texts(1, 60)))
        self.assertEqual(out.getvalue(), "")


if __name__ == "__main__":
    unittest.main()

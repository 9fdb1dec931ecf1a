"""put, make, copy, use, hold, free."""

import unittest

from tests.saying import last_of, rows, say_all, trace_of

START = ["person ann", "person bob", "ground a mail law 5 made", "ground b bill need 50 made", "store st roll 3",
         "store far other"]


class PutAndMake(unittest.TestCase):
    def test_numbers_rise_from_0(self):
        texts = START + ["put ann mail", "put bob bill", "put cat mail", "put ann post", "make bob mail 0,1", "put ann mail"]
        self.assertEqual(say_all(texts)[6:], ["ok 0", "ok 1", "no person", "no ground", "ok 2", "ok 3"])

    def test_numbers_are_not_used_again(self):
        self.assertEqual(last_of(START, "put ann mail", "tick 5", "put ann mail"), "ok 1")

    def test_many(self):
        full = START + ["put ann mail"] * 16
        self.assertEqual(say_all(full)[-1], "ok 15")
        self.assertEqual(last_of(full, "put ann mail"), "no many")
        self.assertEqual(last_of(full, "make ann mail 0"), "no many")
        self.assertEqual(trace_of(full + ["put ann mail"]), trace_of(full))
        self.assertEqual(last_of(full, "put ann post"), "no ground")
        self.assertEqual(last_of(full, "make ann post 0"), "no ground")
        self.assertEqual(last_of(full, "put zoe post"), "no person")
        self.assertEqual(last_of(full, "make zoe post 0"), "no person")
        self.assertEqual(last_of(full, "make ann mail 16"), "no record")

    def test_many_counts_those_that_were_let_go(self):
        full = START + ["put ann mail"] * 16 + ["tick 5"]
        self.assertEqual(last_of(full, "tell ann"), "0")
        self.assertEqual(last_of(full, "put ann mail"), "no many")

    def test_first_reason_of_make(self):
        texts = START + ["put ann mail"]
        self.assertEqual(last_of(texts, "make zoe post 9"), "no person")
        self.assertEqual(last_of(texts, "make ann post 9"), "no record")
        self.assertEqual(last_of(texts, "make ann post 0"), "no ground")
        self.assertEqual(last_of(texts, "make ann mail 0,1"), "no record")
        self.assertEqual(last_of(texts, "make ann mail 99"), "no record")
        self.assertEqual(trace_of(texts + ["make ann mail 0,1"]), trace_of(texts))
        self.assertEqual(trace_of(texts + ["make ann post 0"]), trace_of(texts))

    def test_made_of_one_that_was_let_go(self):
        texts = START + ["put ann mail", "tick 5", "put ann mail"]
        self.assertEqual(last_of(texts, "make ann mail 0"), "no record")
        self.assertEqual(last_of(texts, "make ann mail 0,1"), "no record")
        self.assertEqual(last_of(texts, "make ann mail 1"), "ok 2")

    def test_a_hold_is_enough(self):
        texts = START + ["hold h ann post"]
        self.assertEqual(say_all(texts + ["put ann post", "put bob post"])[-2:], ["ok 0", "no ground"])
        self.assertEqual(last_of(texts, "put ann post", "make ann post 0"), "ok 1")
        self.assertEqual(last_of(texts, "put ann post", "free h", "proof 0"), rows("gone 0", "main gone 0"))

    def test_refused_takes_no_number(self):
        self.assertEqual(last_of(START, "put ann post", "put zoe mail", "put ann mail"), "ok 0")
        self.assertEqual(last_of(START, "put ann post", "proof 0"), "no record")


class CopyAndUse(unittest.TestCase):
    def test_copy(self):
        texts = START + ["put ann mail", "put ann mail", "copy 0 st"]
        self.assertEqual(last_of(texts), "ok")
        self.assertEqual(last_of(texts, "copy 0 st"), "no change")
        self.assertEqual(trace_of(texts + ["copy 0 st"]), trace_of(texts))
        self.assertEqual(last_of(texts, "copy 1 st"), "ok")
        self.assertEqual(last_of(texts, "copy 0 far"), "ok")
        self.assertEqual(last_of(texts, "copy 0 far", "copy 0 far"), "no change")
        self.assertEqual(last_of(texts, "copy 0 near"), "no store")
        self.assertEqual(last_of(texts, "copy 2 st"), "no record")
        self.assertEqual(last_of(texts, "copy 99 st"), "no record")
        self.assertEqual(last_of(texts, "tick 5", "copy 1 st"), "no gone")

    def test_first_reason_of_copy(self):
        texts = START + ["put ann mail", "copy 0 st"]
        self.assertEqual(last_of(texts, "copy 1 near"), "no record")
        self.assertEqual(last_of(texts, "tick 5", "copy 0 near"), "no gone")
        self.assertEqual(last_of(texts, "tick 5", "copy 0 st"), "no gone")
        self.assertEqual(trace_of(texts + ["tick 5", "copy 0 far"]), trace_of(texts + ["tick 5"]))

    def test_use(self):
        texts = START + ["put ann mail"]
        self.assertEqual(last_of(texts, "use 0"), "ok")
        self.assertEqual(last_of(texts, "use 0", "use 0"), "ok")
        self.assertEqual(last_of(texts, "use 1"), "no record")
        self.assertEqual(last_of(texts, "tick 5", "use 0"), "no gone")
        self.assertEqual(last_of(texts, "tick 4", "use 0"), "ok")

    def test_copies_are_told_main_first_then_as_they_came(self):
        texts = START + ["put ann mail", "copy 0 far", "copy 0 st"]
        self.assertEqual(last_of(texts, "proof 0"), rows("kept", "main there", "far there", "st there"))


class Holds(unittest.TestCase):
    def test_refusals(self):
        texts = START + ["hold h ann any"]
        self.assertEqual(last_of(texts), "ok")
        self.assertEqual(last_of(texts, "hold h bob mail"), "no name")
        self.assertEqual(last_of(texts, "hold h zoe mail"), "no name")
        self.assertEqual(last_of(texts, "hold i zoe mail"), "no person")
        self.assertEqual(last_of(texts, "hold i ann any"), "ok")
        self.assertEqual(last_of(texts, "free i"), "no name")
        self.assertEqual(last_of(texts, "free h"), "ok")
        self.assertEqual(last_of(texts, "free h", "free h"), "no name")
        for text in ["hold h bob mail", "hold i zoe any", "free i"]:
            self.assertEqual(trace_of(texts + [text]), trace_of(texts))

    def test_many(self):
        four = START + [f"hold {name} ann any" for name in "hijk"]
        self.assertEqual(say_all(four)[6:], ["ok"] * 4)
        self.assertEqual(last_of(four, "hold l ann any"), "no many")
        self.assertEqual(last_of(four, "hold l zoe any"), "no person")
        self.assertEqual(last_of(four, "hold h zoe any"), "no name")
        self.assertEqual(trace_of(four + ["hold l ann any"]), trace_of(four))
        self.assertEqual(last_of(four, "free i", "hold l ann any"), "ok")

    def test_one_kind_and_any(self):
        texts = START + ["put ann mail", "put ann bill", "put bob mail"]
        self.assertEqual(last_of(texts, "hold h ann mail", "due 400"), rows("1 50", "2 5"))
        self.assertEqual(last_of(texts, "hold h ann any", "due 400"), rows("2 5"))
        self.assertEqual(last_of(texts, "hold h bob any", "due 400"), rows("0 5", "1 50"))
        self.assertEqual(last_of(texts, "hold h bob post", "due 400"), rows("0 5", "1 50", "2 5"))

    def test_kept_as_long_as_held(self):
        texts = START + ["put ann mail", "put ann bill", "hold h ann mail", "hold i ann any", "tick 100"]
        self.assertEqual(last_of(texts, "tell ann"), rows("0 mail main there", "1 bill main there"))
        self.assertEqual(last_of(texts, "free i", "tell ann"), rows("0 mail main there"))
        self.assertEqual(last_of(texts, "free i", "free h", "tell ann"), "0")
        self.assertEqual(last_of(texts, "free i", "tick 2", "free h", "proof 0"), rows("gone 102", "main gone 102"))
        self.assertEqual(last_of(texts, "free h", "till 0"), "open")

    def test_a_hold_brings_nothing_back(self):
        texts = START + ["put ann mail", "copy 0 st", "tick 5", "hold h ann any"]
        self.assertEqual(last_of(texts, "proof 0"), rows("gone 5", "main gone 5", "st going 8"))
        self.assertEqual(last_of(texts, "tick 3", "proof 0"), rows("gone 5", "main gone 5", "st gone 8"))

    def test_freed_before_its_ground_ends(self):
        texts = START + ["put ann mail", "hold h ann any", "tick 2", "free h"]
        self.assertEqual(last_of(texts, "till 0"), "5")


if __name__ == "__main__":
    unittest.main()

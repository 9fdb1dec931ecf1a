"""person, consent, withdraw, object, ended, forget."""

import unittest

from tests.saying import last_of, rows, say_all, trace_of

START = ["person ann", "person bob"]
CHANGES = ["consent {} news", "withdraw {} news", "object {}", "ended {}", "forget {}"]


class Person(unittest.TestCase):
    def test_ordinary(self):
        self.assertEqual(say_all(["person ann", "tell ann"]), ["ok", "0"])

    def test_name(self):
        self.assertEqual(last_of(START, "person ann"), "no name")

    def test_many(self):
        self.assertEqual(say_all([f"person {name}" for name in "abcde"]), ["ok"] * 4 + ["no many"])

    def test_name_ahead_of_many(self):
        self.assertEqual(last_of([f"person {name}" for name in "abcd"], "person b"), "no name")

    def test_refused_changes_nothing(self):
        for texts, text in [(START, "person ann"), (["person ann", "person bob", "person cat", "person dan"], "person zoe")]:
            self.assertEqual(trace_of(texts + [text]), trace_of(texts))


class Consent(unittest.TestCase):
    def test_ordinary(self):
        self.assertEqual(say_all(START + ["consent ann news", "consent bob news"])[2:], ["ok", "ok"])

    def test_no_person(self):
        for change in CHANGES:
            self.assertEqual(last_of(START, change.format("zoe")), "no person", change)
            self.assertEqual(trace_of(START + [change.format("zoe")]), trace_of(START))

    def test_no_change(self):
        self.assertEqual(last_of(START, "consent ann news", "consent ann news"), "no change")

    def test_many(self):
        four = START + [f"consent ann {name}" for name in "abcd"]
        self.assertEqual(say_all(four)[2:], ["ok"] * 4)
        self.assertEqual(last_of(four, "consent ann e"), "no many")
        self.assertEqual(trace_of(four + ["consent ann e"]), trace_of(four))
        self.assertEqual(last_of(four, "consent ann a"), "no change")
        self.assertEqual(last_of(four, "consent bob e"), "ok")
        self.assertEqual(last_of(four, "withdraw ann b", "consent ann e"), "ok")
        self.assertEqual(last_of(four, "withdraw ann b", "consent ann e", "consent ann b"), "no many")

    def test_forget_frees_all_four(self):
        texts = START + [f"consent ann {name}" for name in "abcd"] + ["forget ann"] + [f"consent ann {n}" for n in "abcde"]
        self.assertEqual(say_all(texts)[-5:], ["ok"] * 4 + ["no many"])

    def test_withdraw(self):
        self.assertEqual(last_of(START, "withdraw ann news"), "no change")
        self.assertEqual(last_of(START, "consent bob news", "withdraw ann news"), "no change")
        self.assertEqual(last_of(START, "consent ann news", "withdraw ann news"), "ok")
        self.assertEqual(last_of(START, "consent ann news", "withdraw ann news", "withdraw ann news"), "no change")
        self.assertEqual(last_of(START, "consent ann news", "withdraw ann news", "consent ann news"), "ok")

    def test_withdraw_lets_go(self):
        texts = START + ["ground a mail for news 50 made", "consent ann news", "consent bob news", "put ann mail",
                         "put bob mail", "consent ann ads"]
        self.assertEqual(last_of(texts, "withdraw ann ads", "proof 0"), rows("kept", "main there"))
        self.assertEqual(last_of(texts, "tick 3", "withdraw ann news", "proof 0"), rows("gone 3", "main gone 3"))
        self.assertEqual(last_of(texts, "withdraw ann news", "proof 1"), rows("kept", "main there"))
        self.assertEqual(last_of(texts, "withdraw ann news", "consent ann news", "why 0"), "no gone")


class ObjectAndEnded(unittest.TestCase):
    def test_no_change(self):
        for change in ["object ann", "ended ann"]:
            self.assertEqual(say_all(START + [change, change])[2:], ["ok", "no change"])
            self.assertEqual(last_of(START, change, "tick 9", change), "no change")
            self.assertEqual(last_of(START, change.replace("ann", "bob"), change), "ok")

    def test_a_matter_ends_once_for_all(self):
        texts = START + ["ground a mail law 5 ended", "put ann mail", "tick 2", "ended ann", "tick 1"]
        self.assertEqual(last_of(texts, "till 0"), "7")
        self.assertEqual(trace_of(texts + ["ended ann"]), trace_of(texts))

    def test_object_lets_go(self):
        texts = START + ["ground a mail need 50 made", "put ann mail", "put bob mail", "object ann"]
        self.assertEqual(last_of(texts, "proof 0"), rows("gone 0", "main gone 0"))
        self.assertEqual(last_of(texts, "proof 1"), rows("kept", "main there"))
        self.assertEqual(last_of(texts, "put ann mail"), "no ground")

    def test_ended_lets_go_on_the_same_day(self):
        texts = START + ["ground a mail law 0 ended", "put ann mail", "put bob mail", "tick 4", "ended ann"]
        self.assertEqual(last_of(texts, "proof 0"), rows("gone 4", "main gone 4"))
        self.assertEqual(last_of(texts, "till 1"), "open")


class Forget(unittest.TestCase):
    TEXTS = START + ["ground a mail law 9 made", "ground b bill need 50 made", "ground c post for news 50 made",
                     "consent ann news", "consent ann ads", "put ann mail", "put ann bill", "put ann post", "put bob bill"]

    def test_all_goes_but_what_the_law_keeps(self):
        texts = self.TEXTS + ["forget ann"]
        self.assertEqual(last_of(texts), "ok")
        self.assertEqual(last_of(texts, "tell ann"), rows("0 mail main there"))
        self.assertEqual(last_of(texts, "tell bob"), rows("3 bill main there"))
        self.assertEqual(last_of(texts, "object ann"), "no change")
        self.assertEqual(last_of(texts, "object bob"), "ok")
        for thing in ("news", "ads"):
            self.assertEqual(last_of(texts, f"withdraw ann {thing}"), "no change")

    def test_again_and_with_nothing_to_forget(self):
        self.assertEqual(last_of(self.TEXTS, "forget ann", "forget ann"), "ok")
        self.assertEqual(last_of(START, "forget bob"), "ok")
        self.assertEqual(last_of(START, "object bob", "forget bob"), "ok")

    def test_what_is_held_stays_till_it_is_free(self):
        texts = self.TEXTS + ["hold h ann bill", "forget ann"]
        self.assertEqual(last_of(texts, "tell ann"), rows("0 mail main there", "1 bill main there"))
        self.assertEqual(last_of(texts, "free h", "tell ann"), rows("0 mail main there"))

    def test_the_matter_is_not_ended_by_it(self):
        self.assertEqual(last_of(self.TEXTS, "forget ann", "ended ann"), "ok")


if __name__ == "__main__":
    unittest.main()

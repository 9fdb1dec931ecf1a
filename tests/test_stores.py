"""store, deaf, hears, back, and how copies follow."""

import unittest

from tests.saying import last_of, rows, say_all, trace_of

START = ["person ann", "person bob", "ground a mail law 5 made", "store st roll 3", "store far other"]


class Commands(unittest.TestCase):
    def test_name(self):
        for text in ["store st roll 9", "store st other", "store far roll 9", "store far other"]:
            self.assertEqual(last_of(START, text), "no name")
            self.assertEqual(trace_of(START + [text]), trace_of(START))

    def test_many(self):
        four = START + ["store c roll 1", "store d other"]
        self.assertEqual(say_all(four)[3:], ["ok"] * 4)
        for text in ["store e roll 1", "store e other"]:
            self.assertEqual(last_of(four, text), "no many")
            self.assertEqual(trace_of(four + [text]), trace_of(four))
        self.assertEqual(last_of(four, "store st other"), "no name")

    def test_deaf_and_hears(self):
        for text in ["deaf", "hears"]:
            self.assertEqual(last_of(START, f"{text} far"), "ok")
            self.assertEqual(last_of(START, f"{text} far", f"{text} far"), "ok")
            self.assertEqual(last_of(START, f"{text} st"), "no store")
            self.assertEqual(last_of(START, f"{text} near"), "no store")
            self.assertEqual(trace_of(START + [f"{text} st"]), trace_of(START))


class Copies(unittest.TestCase):
    PUT = START + ["put ann mail", "copy 0 st", "copy 0 far"]

    def test_there(self):
        self.assertEqual(last_of(self.PUT, "tick 4", "proof 0"), rows("kept", "main there", "st there", "far there"))

    def test_going_to_the_very_day(self):
        for days in (5, 6, 7):
            told = last_of(self.PUT, f"tick {days}", "proof 0")
            self.assertEqual(told, rows("gone 5", "main gone 5", "st going 8", "far gone 5"))
            self.assertEqual(last_of(self.PUT, f"tick {days}", "tell ann"), rows("0 mail st going 8"))
        for days in (8, 9, 300):
            told = last_of(self.PUT, f"tick {days}", "proof 0")
            self.assertEqual(told, rows("gone 5", "main gone 5", "st gone 8", "far gone 5"))
            self.assertEqual(last_of(self.PUT, f"tick {days}", "tell ann"), "0")

    def test_turns_of_one_and_four_hundred_days(self):
        texts = START + ["store quick roll 1", "store slow roll 400", "put ann mail", "copy 0 quick", "copy 0 slow", "tick 5"]
        self.assertEqual(last_of(texts, "tell ann"), rows("0 mail quick going 6", "0 mail slow going 405"))
        self.assertEqual(last_of(texts, "tick 1", "tell ann"), rows("0 mail slow going 405"))
        self.assertEqual(last_of(texts, "tick 399", "tell ann"), rows("0 mail slow going 405"))
        self.assertEqual(last_of(texts, "tick 400", "proof 0"),
                         rows("gone 5", "main gone 5", "quick gone 6", "slow gone 405"))

    def test_who_hears_is_done_on_the_same_day(self):
        self.assertEqual(last_of(self.PUT, "tick 5", "asks"), "0")
        self.assertEqual(last_of(self.PUT, "tick 2", "void a", "proof 0"),
                         rows("gone 2", "main gone 2", "st going 5", "far gone 2"))

    def test_the_deaf_are_asked_till_they_hear(self):
        deaf = self.PUT + ["deaf far", "tick 9"]
        self.assertEqual(last_of(deaf, "proof 0"), rows("gone 5", "main gone 5", "st gone 8", "far asked 5"))
        self.assertEqual(last_of(deaf, "tell ann"), rows("0 mail far asked 5"))
        self.assertEqual(last_of(deaf, "asks"), rows("0 far 5"))
        self.assertEqual(last_of(deaf, "tick 400", "asks"), rows("0 far 5"))
        self.assertEqual(last_of(deaf, "deaf far", "asks"), rows("0 far 5"))
        heard = deaf + ["tick 2", "hears far"]
        self.assertEqual(last_of(heard, "proof 0"), rows("gone 5", "main gone 5", "st gone 8", "far gone 11"))
        self.assertEqual(last_of(heard, "asks"), "0")
        self.assertEqual(last_of(heard, "deaf far", "proof 0"), rows("gone 5", "main gone 5", "st gone 8", "far gone 11"))

    def test_deaf_and_hearing_again_before_anything_goes(self):
        self.assertEqual(last_of(self.PUT, "deaf far", "tick 2", "hears far", "tick 3", "asks"), "0")

    def test_each_other_house_by_itself(self):
        texts = self.PUT + ["store near other", "copy 0 near", "deaf near", "tick 6"]
        self.assertEqual(last_of(texts, "asks"), rows("0 near 5"))
        self.assertEqual(last_of(texts, "hears far", "asks"), rows("0 near 5"))
        self.assertEqual(last_of(texts, "hears near", "asks"), "0")


class AllThatGoesGoes(unittest.TestCase):
    """Each command of which that's said lets go and settles on the same day."""

    def test_records_and_copies_follow_at_once(self):
        rules = ["person ann", "store st roll 3", "store far other", "store near other", "deaf near", "consent ann news",
                 "tick 7"]
        copies = ["copy 0 st", "copy 0 far", "copy 0 near"]
        for before, command in [
            (["ground a mail for news 50 made", "put ann mail"], "withdraw ann news"),
            (["ground a mail need 50 made", "put ann mail"], "object ann"),
            (["ground a mail law 0 ended", "put ann mail"], "ended ann"),
            (["ground a mail for news 50 made", "put ann mail"], "forget ann"),
            (["ground a mail need 50 made", "put ann mail"], "forget ann"),
            (["ground a mail law 50 made", "put ann mail"], "void a"),
            (["hold h ann any", "put ann mail"], "free h"),
        ]:
            texts = rules + before + copies + [command]
            self.assertEqual(last_of(texts), "ok")
            told = last_of(texts, "proof 0")
            self.assertEqual(told, rows("gone 7", "main gone 7", "st going 10", "far gone 7", "near asked 7"), command)

    def test_what_is_made_of_it_goes_with_it(self):
        texts = ["person ann", "ground a raw law 50 made", "ground b sum need 50 made", "put ann raw", "make ann sum 0",
                 "tick 2", "void a"]
        self.assertEqual(last_of(texts, "proof 1"), rows("gone 2", "main gone 2"))


class Back(unittest.TestCase):
    PUT = START + ["ground b sum need 50 made", "put ann mail", "put bob mail", "copy 0 st", "copy 1 far"]

    def test_no_store(self):
        for name in ("far", "near"):
            self.assertEqual(last_of(self.PUT, f"back {name}"), "no store")
            self.assertEqual(trace_of(self.PUT + [f"back {name}"]), trace_of(self.PUT))

    def test_with_nothing(self):
        self.assertEqual(last_of(START, "back st"), "ok 0 0 0")

    def test_put_back_and_lost(self):
        texts = self.PUT + ["tick 2", "back st"]
        self.assertEqual(last_of(texts), "ok 1 1 0")
        self.assertEqual(last_of(texts, "proof 0"), rows("kept", "main there", "st there"))
        self.assertEqual(last_of(texts, "proof 1"), rows("gone 2", "main gone 2", "far gone 2"))
        self.assertEqual(last_of(texts, "till 0"), "5")
        self.assertEqual(last_of(texts, "back st"), "ok 1 0 0")

    def test_lost_ones_copies_follow(self):
        texts = self.PUT + ["store slow roll 9", "copy 1 slow", "deaf far", "tick 2", "back st"]
        self.assertEqual(last_of(texts, "proof 1"), rows("gone 2", "main gone 2", "far asked 2", "slow going 11"))
        self.assertEqual(last_of(texts, "back slow"), "ok 0 1 1")

    def test_those_let_go_stay_away(self):
        texts = self.PUT + ["tick 5", "put ann mail", "copy 2 st"]
        self.assertEqual(last_of(texts, "back st"), "ok 1 0 1")
        self.assertEqual(last_of(texts, "back st", "proof 0"), rows("gone 5", "main gone 5", "st going 8"))
        self.assertEqual(last_of(texts, "back st", "use 0"), "no gone")
        self.assertEqual(last_of(texts, "tick 2", "back st"), "ok 1 0 1")
        self.assertEqual(last_of(texts, "tick 3", "back st"), "ok 1 0 0")

    def test_a_hold_does_not_bring_back_what_is_lost(self):
        texts = self.PUT + ["hold h bob any", "back st"]
        self.assertEqual(last_of(texts), "ok 1 1 0")
        self.assertEqual(last_of(texts, "proof 1"), rows("gone 0", "main gone 0", "far gone 0"))

    def test_what_was_made_of_a_lost_one(self):
        texts = self.PUT + ["make ann sum 1", "copy 2 st", "make ann mail 1", "copy 3 st", "back st"]
        self.assertEqual(last_of(texts), "ok 3 1 0")
        self.assertEqual(last_of(texts, "proof 2"), rows("gone 0", "main gone 0", "st going 3"))
        self.assertEqual(last_of(texts, "proof 3"), rows("kept", "main there", "st there"))
        self.assertEqual(last_of(texts, "back st"), "ok 2 0 1")

    def test_one_store_of_two(self):
        texts = self.PUT + ["store slow roll 9", "copy 1 slow", "copy 0 slow"]
        self.assertEqual(last_of(texts, "back slow"), "ok 2 0 0")
        self.assertEqual(last_of(texts, "back slow", "back st"), "ok 1 1 0")


if __name__ == "__main__":
    unittest.main()

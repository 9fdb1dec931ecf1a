"""tick, tell, why, till, proof, due, asks."""

import unittest

from tests.saying import last_of, random_texts, rows, say_all, trace_of

START = ["person ann", "person bob", "ground a mail law 5 made", "ground b mail need 9 used",
         "ground c mail for news 30 made", "ground d bill law 400 made", "store st roll 3", "store far other"]
PUT = START + ["put ann mail", "put bob mail", "put ann bill"]


class Tick(unittest.TestCase):
    def test_days(self):
        self.assertEqual(say_all(["tick 1", "tick 400", "tick 9"]), ["ok 1", "ok 401", "ok 410"])

    def test_each_day_lets_go_on_its_own_day(self):
        self.assertEqual(last_of(PUT, "tick 400", "proof 0"), rows("gone 9", "main gone 9"))
        self.assertEqual(last_of(PUT, "tick 400", "proof 2"), rows("gone 400", "main gone 400"))

    def test_first_day_is_0(self):
        self.assertEqual(last_of(START, "put ann bill", "void d", "proof 0"), rows("gone 0", "main gone 0"))


class Tell(unittest.TestCase):
    def test_no_person(self):
        self.assertEqual(last_of(PUT, "tell zoe"), "no person")

    def test_none_one_and_several(self):
        self.assertEqual(last_of(START, "tell ann"), "0")
        self.assertEqual(last_of(PUT, "tell bob"), rows("1 mail main there"))
        self.assertEqual(last_of(PUT, "tell ann"), rows("0 mail main there", "2 bill main there"))

    def test_all_states(self):
        texts = PUT + ["copy 2 far", "copy 2 st", "copy 0 st", "copy 0 far", "deaf far", "tick 9"]
        self.assertEqual(last_of(texts, "tell ann"), rows(
            "0 mail st going 12", "0 mail far asked 9", "2 bill main there", "2 bill far there", "2 bill st there"))
        self.assertEqual(last_of(texts, "tick 3", "tell ann"), rows(
            "0 mail far asked 9", "2 bill main there", "2 bill far there", "2 bill st there"))

    def test_an_answer_may_be_longer_than_a_text(self):
        texts = START + ["put ann bill"] * 16
        self.assertEqual(last_of(texts, "tell ann"), rows(*[f"{number} bill main there" for number in range(16)]))


class Why(unittest.TestCase):
    def test_refusals(self):
        self.assertEqual(last_of(PUT, "why 3"), "no record")
        self.assertEqual(last_of(PUT, "why 99"), "no record")
        self.assertEqual(last_of(PUT, "tick 9", "why 0"), "no gone")

    def test_grounds_as_told_then_holds_as_told(self):
        texts = PUT + ["hold z ann any", "hold h ann mail", "hold i ann bill", "hold j bob any", "consent ann news"]
        self.assertEqual(last_of(texts, "why 0"), rows("a law", "b need", "c for news", "z hold", "h hold"))
        self.assertEqual(last_of(texts, "why 1"), rows("a law", "b need", "j hold"))
        self.assertEqual(last_of(texts, "why 2"), rows("d law", "z hold", "i hold"))
        again = texts + ["void a", "ground a mail law 5 made", "free z", "hold z ann any"]
        self.assertEqual(last_of(again, "why 0"), rows("b need", "c for news", "a law", "h hold", "z hold"))

    def test_only_what_gives_it_today(self):
        texts = PUT + ["consent ann news"]
        self.assertEqual(last_of(texts, "tick 4", "why 0"), rows("a law", "b need", "c for news"))
        self.assertEqual(last_of(texts, "tick 5", "why 0"), rows("b need", "c for news"))
        self.assertEqual(last_of(texts, "tick 8", "why 0"), rows("b need", "c for news"))
        self.assertEqual(last_of(texts, "tick 9", "why 0"), rows("c for news"))
        self.assertEqual(last_of(texts, "object ann", "why 0"), rows("a law", "c for news"))
        self.assertEqual(last_of(texts, "tick 9", "hold h ann any", "tick 400", "why 0"), rows("h hold"))


class Till(unittest.TestCase):
    def test_refusals(self):
        self.assertEqual(last_of(PUT, "till 3"), "no record")
        self.assertEqual(last_of(PUT, "tick 9", "till 0"), "no gone")

    def test_four_hundred_days_and_one_more(self):
        self.assertEqual(last_of(PUT, "till 2"), "400")
        texts = START + ["ground e post law 401 made", "put ann post"]
        self.assertEqual(last_of(texts, "till 0"), "open")
        self.assertEqual(last_of(texts, "tick 1", "till 0"), "401")
        self.assertEqual(last_of(texts, "tick 400", "till 0"), "401")
        self.assertEqual(last_of(texts, "due 400"), "0")
        self.assertEqual(last_of(texts, "tick 1", "due 400"), rows("0 401"))
        self.assertEqual(last_of(texts, "tick 1", "due 399"), "0")

    def test_open(self):
        self.assertEqual(last_of(PUT, "hold h ann mail", "till 0"), "open")
        self.assertEqual(last_of(START, "ground e post need 4 ended", "put ann post", "till 0"), "open")
        self.assertEqual(last_of(START, "ground e post need 4 ended", "put ann post", "ended ann", "till 0"), "4")

    def test_asking_changes_nothing(self):
        for question in ["till 0", "due 400", "why 0", "proof 0", "tell ann", "asks"]:
            self.assertEqual(trace_of(PUT + [question]), trace_of(PUT))


class Proof(unittest.TestCase):
    def test_refusals(self):
        self.assertEqual(last_of(PUT, "proof 3"), "no record")
        self.assertEqual(last_of(PUT, "tick 9", "proof 3"), "no record")
        self.assertEqual(last_of(["proof 0"]), "no record")

    def test_kept_and_gone(self):
        texts = PUT + ["copy 0 st", "copy 0 far", "deaf far"]
        self.assertEqual(last_of(texts, "proof 0"), rows("kept", "main there", "st there", "far there"))
        self.assertEqual(last_of(texts, "tick 9", "proof 0"), rows("gone 9", "main gone 9", "st going 12", "far asked 9"))
        self.assertEqual(last_of(texts, "tick 12", "hears far", "proof 0"),
                         rows("gone 9", "main gone 9", "st gone 12", "far gone 12"))


class Due(unittest.TestCase):
    def test_none_one_and_several(self):
        self.assertEqual(last_of(["due 400"]), "0")
        self.assertEqual(last_of(PUT, "due 8"), "0")
        self.assertEqual(last_of(PUT, "use 1", "tick 2", "use 1", "due 7"), rows("0 9"))
        self.assertEqual(last_of(PUT, "due 9"), rows("0 9", "1 9"))
        self.assertEqual(last_of(PUT, "tick 2", "use 0", "due 400"), rows("0 11", "1 9", "2 400"))

    def test_those_let_go_are_not_told(self):
        self.assertEqual(last_of(PUT, "tick 9", "due 400"), rows("2 400"))
        self.assertEqual(last_of(PUT, "tick 400", "due 400"), "0")


class Asks(unittest.TestCase):
    def test_none_one_and_several(self):
        texts = PUT + ["store near other", "deaf far", "deaf near", "copy 1 near", "copy 0 near", "copy 0 far", "copy 2 far"]
        self.assertEqual(last_of(texts, "asks"), "0")
        self.assertEqual(last_of(texts, "tick 9", "asks"), rows("0 near 9", "0 far 9", "1 near 9"))
        self.assertEqual(last_of(texts, "tick 400", "asks"), rows("0 near 9", "0 far 9", "1 near 9", "2 far 400"))
        self.assertEqual(last_of(texts, "tick 9", "hears near", "asks"), rows("0 far 9"))


def outcome_of(texts):
    """How each record stands behind these texts."""
    return say_all(texts + [f"proof {number}" for number in range(16)] + ["asks"])[len(texts):]


class AnyHouse(unittest.TestCase):
    SEEDS = range(150)

    def test_till_and_due_are_told_right(self):
        told_days = 0
        for seed in self.SEEDS:
            texts = random_texts(seed, 40)
            today = int(last_of(texts, "tick 1")[3:]) - 1
            told = say_all(texts + [f"till {number}" for number in range(16)] + ["due 400"])[len(texts):]
            later = outcome_of(texts + ["tick 400"])
            due = []
            for number in range(16):
                first = later[number].split("\n")[1:2]
                if told[number] == "open":
                    self.assertEqual(first, ["kept"], (seed, number))
                elif told[number].isdigit():
                    told_days += 1
                    self.assertEqual(first, ["gone " + told[number]], (seed, number))
                    self.assertTrue(today < int(told[number]) <= today + 400)
                    due.append(f"{number} {told[number]}")
            self.assertEqual(told[16], rows(*due), seed)
        self.assertGreater(told_days, 100)

    def test_time_may_be_cut_anywhere(self):
        for seed in self.SEEDS:
            texts = random_texts(seed, 35)
            whole = outcome_of(texts + ["tick 60"])
            for first in (1, 7, 30, 59):
                self.assertEqual(outcome_of(texts + [f"tick {first}", f"tick {60 - first}"]), whole, (seed, first))

    def test_nothing_let_go_is_ever_back(self):
        for seed in self.SEEDS:
            texts = random_texts(seed, 44)
            gone = {}
            for many in range(6, 45):
                for number, proof in enumerate(outcome_of(texts[:many - 1])[:16]):
                    first = proof.split("\n")[1:2]
                    if number in gone:
                        self.assertEqual(first, gone[number], (seed, many))
                    elif first and first[0].startswith("gone"):
                        gone[number] = first
            if seed >= 20:
                break

    def test_what_is_kept_may_be_kept(self):
        for seed in self.SEEDS:
            texts = random_texts(seed, 40)
            told = say_all(texts + [f"why {number}" for number in range(16)])[40:]
            for reasons in told:
                self.assertNotEqual(reasons, "0", seed)

    def test_refused_texts_change_nothing(self):
        refused = 0
        for seed in range(8):
            texts = random_texts(seed, 30)
            told = say_all(texts)
            for place in range(15, 30):
                if told[place].startswith("no "):
                    refused += 1
                    self.assertEqual(trace_of(texts[:place + 1]), trace_of(texts[:place]), (seed, place))
        self.assertGreater(refused, 20)


if __name__ == "__main__":
    unittest.main()

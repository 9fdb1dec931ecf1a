"""ground, void, and till when each ground gives a record."""

import unittest

from tests.saying import last_of, rows, say_all, trace_of

START = ["person ann", "consent ann news", "tick 10"]
BASES = ["law", "need", "for news"]


class Commands(unittest.TestCase):
    def test_name(self):
        for basis in BASES:
            texts = START + [f"ground a mail {basis} 5 made"]
            self.assertEqual(last_of(texts), "ok")
            for other in BASES:
                self.assertEqual(last_of(texts, f"ground a bill {other} 9 used"), "no name")
            self.assertEqual(trace_of(texts + ["ground a bill law 9 used"]), trace_of(texts))

    def test_many(self):
        eight = START + [f"ground {name} mail {BASES[place % 3]} 5 made" for place, name in enumerate("abcdefgh")]
        self.assertEqual(say_all(eight)[3:], ["ok"] * 8)
        for basis in BASES:
            self.assertEqual(last_of(eight, f"ground i mail {basis} 5 made"), "no many")
            self.assertEqual(last_of(eight, f"ground d mail {basis} 5 made"), "no name")
        self.assertEqual(trace_of(eight + ["ground i mail law 5 made"]), trace_of(eight))
        self.assertEqual(last_of(eight, "void d", "ground i mail law 5 made"), "ok")
        self.assertEqual(last_of(eight, "void d", "ground i mail law 5 made", "ground d mail law 5 made"), "no many")

    def test_void(self):
        texts = START + ["ground a mail law 5 made", "ground b mail law 4 made", "put ann mail"]
        self.assertEqual(last_of(texts, "void c"), "no name")
        self.assertEqual(trace_of(texts + ["void c"]), trace_of(texts))
        self.assertEqual(last_of(texts, "void a"), "ok")
        self.assertEqual(last_of(texts, "void a", "void a"), "no name")
        self.assertEqual(last_of(texts, "void a", "till 0"), "14")
        self.assertEqual(last_of(texts, "void a", "void b", "proof 0"), rows("gone 10", "main gone 10"))
        self.assertEqual(last_of(texts, "void a", "void b", "ground a mail law 5 made", "why 0"), "no gone")
        self.assertEqual(last_of(texts, "void a", "ground a mail law 5 made", "why 0"), rows("b law", "a law"))

    def test_names_of_grounds_may_be_words_of_texts(self):
        self.assertEqual(last_of(START, "ground for for for news 5 made", "put ann for", "why 0"), rows("for for news"))
        self.assertEqual(last_of(START, "ground law law law 5 made", "put ann law", "why 0"), rows("law law"))


class Kinds(unittest.TestCase):
    def test_only_its_kind(self):
        for basis in BASES:
            self.assertEqual(last_of(START, f"ground a mail {basis} 5 made", "put ann mail"), "ok 0")
            self.assertEqual(last_of(START, f"ground a mail {basis} 5 made", "put ann bill"), "no ground")


class Days(unittest.TestCase):
    def gone_on(self, texts):
        """The day on which record 0 goes, told by till, by due and by days that pass one by one."""
        told = last_of(texts, "till 0")
        day = int(told)
        today = int(last_of(texts, "tick 1")[3:]) - 1
        self.assertEqual(last_of(texts, f"tick {day - today}", "proof 0"), rows(f"gone {day}", f"main gone {day}"))
        if day > today + 1:
            self.assertEqual(last_of(texts, f"tick {day - today - 1}", "proof 0"), rows("kept", "main there"))
            self.assertEqual(last_of(texts, f"due {day - today - 1}"), "0")
        self.assertEqual(last_of(texts, f"due {day - today}"), rows(f"0 {day}"))
        return day

    def test_made(self):
        for basis in BASES:
            texts = START + [f"ground a mail {basis} 5 made", "put ann mail"]
            self.assertEqual(self.gone_on(texts), 15)
            self.assertEqual(self.gone_on(texts + ["tick 2", "use 0"]), 15)
            self.assertEqual(self.gone_on(texts + ["tick 2", "ended ann"]), 15)

    def test_used(self):
        for basis in BASES:
            texts = START + [f"ground a mail {basis} 5 used", "put ann mail"]
            self.assertEqual(self.gone_on(texts), 15)
            self.assertEqual(self.gone_on(texts + ["tick 2", "use 0"]), 17)
            self.assertEqual(self.gone_on(texts + ["tick 4", "use 0", "tick 4", "use 0"]), 23)
            self.assertEqual(last_of(texts, "tick 5", "use 0"), "no gone")
            self.assertEqual(last_of(texts, "tick 4", "use 0"), "ok")
            self.assertEqual(self.gone_on(texts + ["tick 2", "ended ann"]), 15)

    def test_ended(self):
        for basis in BASES:
            texts = START + [f"ground a mail {basis} 5 ended", "put ann mail"]
            self.assertEqual(last_of(texts, "till 0"), "open")
            self.assertEqual(last_of(texts, "tick 400", "tick 400", "proof 0"), rows("kept", "main there"))
            self.assertEqual(self.gone_on(texts + ["tick 200", "ended ann"]), 215)
            self.assertEqual(self.gone_on(texts + ["tick 200", "ended ann", "tick 4", "use 0"]), 215)

    def test_put_behind_the_end(self):
        texts = START + ["ground a mail law 5 ended", "ended ann"]
        self.assertEqual(last_of(texts, "tick 4", "put ann mail"), "ok 0")
        self.assertEqual(self.gone_on(texts + ["tick 4", "put ann mail"]), 15)
        self.assertEqual(last_of(texts, "tick 5", "put ann mail"), "no ground")

    def test_ended_is_each_persons_own(self):
        texts = START + ["person bob", "ground a mail law 5 ended", "put ann mail", "put bob mail", "ended ann"]
        self.assertEqual(say_all(texts + ["till 0", "till 1"])[-2:], ["15", "open"])

    def test_no_days(self):
        for basis in BASES:
            for event in ("made", "used"):
                self.assertEqual(last_of(START, f"ground a mail {basis} 0 {event}", "put ann mail"), "no ground")
            self.assertEqual(last_of(START, f"ground a mail {basis} 0 ended", "put ann mail"), "ok 0")
            self.assertEqual(last_of(START, f"ground a mail {basis} 0 ended", "ended ann", "put ann mail"), "no ground")

    def test_one_day(self):
        self.assertEqual(self.gone_on(START + ["ground a mail law 1 made", "put ann mail"]), 11)

    def test_many_days(self):
        texts = START + ["ground a mail law 4000 made", "put ann mail"] + ["tick 400"] * 9
        self.assertEqual(last_of(texts, "till 0"), "4010")
        self.assertEqual(last_of(texts, "tick 399", "why 0"), rows("a law"))
        self.assertEqual(last_of(texts, "tick 400", "why 0"), "no gone")

    def test_the_longest_of_several_counts(self):
        texts = START + ["ground a mail law 3 made", "ground b mail need 7 made", "ground c mail for news 5 used",
                         "put ann mail"]
        self.assertEqual(self.gone_on(texts), 17)
        self.assertEqual(self.gone_on(texts + ["object ann"]), 15)
        self.assertEqual(self.gone_on(texts + ["forget ann"]), 13)
        self.assertEqual(self.gone_on(texts + ["tick 4", "use 0"]), 19)
        self.assertEqual(last_of(texts, "tick 4", "forget ann", "proof 0"), rows("gone 14", "main gone 14"))


class Needs(unittest.TestCase):
    def test_law_needs_nothing(self):
        texts = START + ["ground a mail law 5 made", "put ann mail", "put ann mail", "make ann mail 0", "forget ann"]
        self.assertEqual(last_of(texts, "why 2"), rows("a law"))

    def test_for_needs_that_very_consent(self):
        texts = START + ["ground a mail for ads 5 made"]
        self.assertEqual(last_of(texts, "put ann mail"), "no ground")
        self.assertEqual(last_of(texts, "consent ann ads", "put ann mail"), "ok 0")
        self.assertEqual(last_of(texts, "consent ann ads", "object ann", "put ann mail"), "ok 0")
        self.assertEqual(last_of(texts, "person bob", "consent bob ads", "put ann mail"), "no ground")

    def test_need_needs_no_objection(self):
        texts = START + ["ground a mail need 5 made"]
        self.assertEqual(last_of(texts, "put ann mail"), "ok 0")
        self.assertEqual(last_of(texts, "withdraw ann news", "put ann mail"), "ok 0")
        self.assertEqual(last_of(texts, "object ann", "put ann mail"), "no ground")
        self.assertEqual(last_of(texts, "person bob", "object bob", "put ann mail"), "ok 0")


class RecordsOfRecords(unittest.TestCase):
    SHORT = START + ["ground a raw law 3 made", "ground b raw need 2 used", "put ann raw", "put ann raw"]

    def test_need_and_for_end_with_the_first_source_that_goes(self):
        for basis in ("need", "for news"):
            texts = self.SHORT + [f"ground c sum {basis} 50 made", "ground d rest law 9 made", "make ann rest 0",
                                  "make ann sum 0,2"]
            self.assertEqual(say_all(texts)[-2:], ["ok 2", "ok 3"])
            self.assertEqual(last_of(texts, "due 400"), rows("0 13", "1 13", "2 19", "3 13"))
            self.assertEqual(last_of(texts, "tick 2", "proof 3"), rows("kept", "main there"))
            self.assertEqual(last_of(texts, "tick 3", "proof 3"), rows("gone 13", "main gone 13"))
            self.assertEqual(last_of(texts, "tick 3", "proof 2"), rows("kept", "main there"))

    def test_law_does_not_mind(self):
        texts = self.SHORT + ["ground c sum law 50 made", "make ann sum 0,1"]
        self.assertEqual(last_of(texts, "till 2"), "60")
        self.assertEqual(last_of(texts, "tick 9", "why 2"), rows("c law"))

    def test_a_chain_goes_on_one_day(self):
        texts = self.SHORT + ["ground c sum need 50 made", "make ann sum 0", "make ann sum 2", "make ann sum 1,3"]
        self.assertEqual(last_of(texts, "due 3"), rows("0 13", "1 13", "2 13", "3 13", "4 13"))
        self.assertEqual(last_of(texts, "tick 3", "tell ann"), "0")
        self.assertEqual(last_of(texts, "tick 3", "proof 4"), rows("gone 13", "main gone 13"))

    def test_a_held_source_is_there(self):
        texts = self.SHORT + ["ground c sum need 50 made", "make ann sum 0", "hold h ann raw"]
        self.assertEqual(last_of(texts, "till 2"), "60")
        self.assertEqual(last_of(texts, "tick 20", "free h", "proof 2"), rows("gone 30", "main gone 30"))

    def test_a_held_one_stays_without_its_source(self):
        texts = self.SHORT + ["ground c sum need 50 made", "make ann sum 0", "hold h ann sum", "tick 5"]
        self.assertEqual(last_of(texts, "why 2"), rows("h hold"))
        self.assertEqual(last_of(texts, "till 2"), "open")
        self.assertEqual(last_of(texts, "free h", "proof 2"), rows("gone 15", "main gone 15"))

    def test_sources_of_other_people(self):
        texts = self.SHORT + ["person bob", "ground c sum need 50 made", "make bob sum 0", "object ann"]
        self.assertEqual(last_of(texts, "why 2"), rows("c need"))
        self.assertEqual(last_of(texts, "tick 3", "why 2"), "no gone")

    def test_another_ground_by_law_lasts_longer(self):
        texts = self.SHORT + ["ground c sum need 50 made", "ground d sum law 8 made", "make ann sum 0,1"]
        self.assertEqual(last_of(texts, "till 2"), "18")
        self.assertEqual(last_of(texts, "tick 3", "why 2"), rows("d law"))
        self.assertEqual(last_of(texts, "tick 2", "why 2"), rows("c need", "d law"))


if __name__ == "__main__":
    unittest.main()

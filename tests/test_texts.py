"""Texts, names, numbers: what is one, what is refused with -1, and what is no form."""

import unittest

from tests.saying import last_of, say_all, trace_of

START = ["person ann", "ground a mail law 50 made", "put ann mail", "store st roll 3", "store far other", "hold h ann mail"]

FITTING = [
    ("person bob", "ok"),
    ("consent ann news", "ok"),
    ("withdraw ann news", "no change"),
    ("object ann", "ok"),
    ("ended ann", "ok"),
    ("forget ann", "ok"),
    ("ground b mail law 5 made", "ok"),
    ("ground b mail need 5 used", "ok"),
    ("ground b mail for news 5 ended", "ok"),
    ("void a", "ok"),
    ("store b roll 5", "ok"),
    ("store b other", "ok"),
    ("deaf far", "ok"),
    ("hears far", "ok"),
    ("put ann mail", "ok 1"),
    ("make ann mail 0", "ok 1"),
    ("copy 0 st", "ok"),
    ("use 0", "ok"),
    ("hold b ann mail", "ok"),
    ("hold b ann any", "ok"),
    ("free h", "ok"),
    ("back st", "ok 0 1 0"),
    ("tick 1", "ok 1"),
    ("tell ann", "1\n0 mail main there"),
    ("why 0", "2\na law\nh hold"),
    ("till 0", "open"),
    ("proof 0", "2\nkept\nmain there"),
    ("due 1", "0"),
    ("asks", "0"),
]


def codes(text):
    return [ord(sign) for sign in text]


class Bytes(unittest.TestCase):
    def test_how_many(self):
        for many, told in [(0, "no form"), (1, "no form"), (80, "no form"), (81, -1), (99, -1)]:
            self.assertEqual(say_all([[97] * many]), [told], many)

    def test_eighty_and_more_that_begin_like_a_text(self):
        self.assertEqual(last_of(["person ann".ljust(80)]), "no form")
        self.assertEqual(last_of(["person ann".ljust(81)]), -1)

    def test_which(self):
        for code, told in [(31, -1), (32, "no form"), (126, "no form"), (127, -1), (0, -1), (10, -1), (9, -1), (128, -1),
                           (-1, -1), (-97, -1), (353, -1), (256 + 97, -1), (-9007199254740992, -1),
                           (9007199254740992, -1), (2 ** 32 + 97, -1)]:
            self.assertEqual(say_all([[code]]), [told], code)

    def test_one_wrong_byte_anywhere(self):
        for place in range(10):
            for code in (31, 127, 10, -1, 9007199254740992):
                text = codes("person bob")
                text[place] = code
                self.assertEqual(last_of(START, text), -1)
            text = codes("person bob")
            text[place] = 126
            self.assertEqual(last_of(START, text), "no form")

    def test_nothing_is_changed_by_minus_one(self):
        before = trace_of(START)
        for text in [codes("tick 1") + [31], codes("object ann") + [127], [-1] + codes("void a"),
                     codes("forget ann") + [32] * 71, [9007199254740992]]:
            self.assertEqual(last_of(START, text), -1)
            self.assertEqual(trace_of(START + [text]), before)

    def test_every_other_sign_is_no_form(self):
        for code in range(33, 127):
            if not 97 <= code <= 122:
                self.assertEqual(last_of(START, codes("person b") + [code]), "no form", code)


class Words(unittest.TestCase):
    def test_each_text_fits(self):
        for text, told in FITTING:
            self.assertEqual(last_of(START, text), told, text)

    def test_blanks(self):
        for text, told in FITTING:
            self.assertEqual(last_of(START, " " + text), "no form", text)
            self.assertEqual(last_of(START, text + " "), "no form", text)
            if " " in text:
                self.assertEqual(last_of(START, text.replace(" ", "  ", 1)), "no form", text)
                self.assertEqual(last_of(START, text.replace(" ", "", 1)), "no form", text)
        self.assertEqual(say_all(["", " ", "  "]), ["no form"] * 3)

    def test_one_word_more_or_less(self):
        for text, told in FITTING:
            self.assertEqual(last_of(START, text + " ann"), "no form", text)
            self.assertEqual(last_of(START, text + " 5"), "no form", text)
            self.assertEqual(last_of(START, "ann " + text), "no form", text)
            if " " in text:
                self.assertEqual(last_of(START, text.rpartition(" ")[0]), "no form", text)
                self.assertEqual(last_of(START, text.partition(" ")[2]), "no form", text)

    def test_capitals_and_other_words(self):
        for text, told in FITTING:
            self.assertEqual(last_of(START, text.upper()), "no form", text)
            self.assertEqual(last_of(START, "x" + text), "no form", text)
            self.assertEqual(last_of(START, text.capitalize()), "no form", text)
        for text in ["ground b mail laws 5 made", "ground b mail law 5 make", "ground b mail law 5 any", "store b rolls 5",
                     "store b others", "store b main", "ground b mail for 5 made", "ground b mail law news 5 made",
                     "ground b mail need news 5 made", "store b other 5", "store b roll", "say", "copy st 0",
                     "NAME", "person NAME", "hold b ann NAME-OR-ANY", "why RECORD"]:
            self.assertEqual(last_of(START, text), "no form", text)

    def test_no_form_changes_nothing(self):
        before = trace_of(START)
        for text in ["tick 0", "tick 401", "forget ann ", "object  ann", "void any", "free"]:
            self.assertEqual(last_of(START, text), "no form")
            self.assertEqual(trace_of(START + [text]), before)


class Names(unittest.TestCase):
    SLOTS = ["person {}", "consent ann {}", "ground {} mail law 1 made", "ground b {} law 1 made",
             "ground b mail for {} 1 made", "store {} roll 1", "store {} other", "hold {} ann mail", "hold b ann {}"]
    ASKED = ["consent {} news", "withdraw {} news", "withdraw ann {}", "object {}", "ended {}", "forget {}", "void {}",
             "deaf {}", "hears {}", "put {} mail", "put ann {}", "make {} mail 0", "make ann {} 0", "copy 0 {}",
             "hold b {} mail", "free {}", "back {}", "tell {}"]

    def test_names(self):
        for slot in self.SLOTS:
            for name in ["b", "abcdefgh", "zzzzzzzz", "law", "for", "need", "ok", "person", "maine", "anyone", "an"]:
                self.assertEqual(last_of(START, slot.format(name)), "ok", slot.format(name))

    def test_names_that_nothing_has(self):
        for slot in self.ASKED:
            for name in ["q", "abcdefgh", "mainly"]:
                told = last_of(START, slot.format(name))
                self.assertTrue(told.startswith("no ") and told != "no form", slot.format(name))

    def test_no_names(self):
        for slot in self.SLOTS + self.ASKED:
            for name in ["abcdefghi", "main", "a1", "1", "B", "bB", "b-b", "b,b", "b.", "?", "0"]:
                self.assertEqual(last_of(START, slot.format(name)), "no form", slot.format(name))
            if slot != "hold b ann {}":
                self.assertEqual(last_of(START, slot.format("any")), "no form", slot)

    def test_each_sort_has_its_own_names(self):
        texts = ["person ann", "ground ann ann for ann 5 made", "store ann other", "consent ann ann", "hold ann ann ann",
                 "put ann ann", "copy 0 ann"]
        self.assertEqual(say_all(texts), ["ok"] * 5 + ["ok 0", "ok"])


class Numbers(unittest.TestCase):
    # A slot, its lowest, its highest.
    SLOTS = [
        ("ground b mail law {} made", 0, 4000), ("ground b mail need {} used", 0, 4000),
        ("ground b mail for news {} ended", 0, 4000), ("store b roll {}", 1, 400), ("tick {}", 1, 400),
        ("due {}", 1, 400), ("make ann mail {}", 0, 99), ("copy {} st", 0, 99), ("use {}", 0, 99), ("why {}", 0, 99),
        ("till {}", 0, 99), ("proof {}", 0, 99), ("make ann mail 0,{}", 1, 99),
    ]

    def test_ends_of_each_range(self):
        for slot, lowest, highest in self.SLOTS:
            for number in (lowest, lowest + 1, highest - 1, highest):
                self.assertNotEqual(last_of(START, slot.format(number)), "no form", slot.format(number))
            for number in (lowest - 1, highest + 1, 9999, 10000):
                self.assertEqual(last_of(START, slot.format(number)), "no form", slot.format(number))

    def test_how_numbers_are_told(self):
        for slot, lowest, highest in self.SLOTS:
            for word in ["00", "01", "007", "0001", "00001", "1a", "a1", "-1", "+1", "1.0", "1_0", "x", "",
                         "10000", "12345678"]:
                self.assertEqual(last_of(START, slot.format(word)), "no form", slot.format(word))

    def test_one_and_four_digits(self):
        for word in ["0", "7", "10", "999", "1000", "4000"]:
            self.assertEqual(last_of(START, f"ground b mail law {word} made"), "ok")

    def test_records_of_which_one_is_made(self):
        four = START + ["put ann mail"] * 4
        for word in ["0", "4", "0,1", "0,4", "0,1,2", "1,2,3,4"]:
            self.assertEqual(last_of(four, f"make ann mail {word}"), "ok 5", word)
        for word in ["0,1,2,3,4", "0,0", "1,0", "0,2,1", "0,1,1", "0,", ",0", "0,,1", ",", "0,01", "0,100", "100", "0;1",
                     "0,a", "0.1", "2,10,9"]:
            self.assertEqual(last_of(four, f"make ann mail {word}"), "no form", word)
        self.assertEqual(last_of(four, "make ann mail 2,10"), "no record")
        self.assertEqual(last_of(four, "make ann mail 0, 1"), "no form")


class NoFormFirst(unittest.TestCase):
    def test_ahead_of_all_others(self):
        for text in ["person main", "person toolongname", "consent zoe any", "put zoe any", "make zoe mail 1,0",
                     "copy 100 nowhere", "use 100", "why 100", "till 00", "proof 100", "hold h zoe main", "free any",
                     "void main", "back main", "tell any", "deaf main", "ground a mail law 4001 made", "store st roll 0"]:
            self.assertEqual(last_of(START, text), "no form", text)


if __name__ == "__main__":
    unittest.main()

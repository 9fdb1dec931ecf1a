"""Says texts to a new house, and gives back its answers as texts."""

import random

from keptrecords.house import answers

MOST_CALLS = 60
NAMES = ("ann", "bob", "cat", "dan")


def calls_of(texts):
    """The list of calls for texts; one that's a list already is taken as its numbers."""
    if not 1 <= len(texts) <= MOST_CALLS:
        raise AssertionError("no list of so many calls is ever handed in")
    calls = []
    for text in texts:
        codes = list(text) if isinstance(text, list) else [ord(sign) for sign in text]
        calls += [1, len(codes)] + codes + [0]
    return calls


def texts_of(answered):
    """The answers' texts; -1 where that was answered."""
    texts = []
    place = 0
    while place < len(answered):
        size = answered[place]
        told = answered[place + 1:place + 1 + size]
        if len(told) != size:
            raise AssertionError("an answer is cut off")
        if told == [-1]:
            texts.append(-1)
        elif told[0] == size - 1:
            texts.append("".join([chr(code) for code in told[1:]]))
        else:
            raise AssertionError(f"an answer of a wrong form: {told}")
        place += 1 + size
    return texts


def say_all(texts):
    return texts_of(answers(calls_of(texts)))


def last_of(texts, *more):
    """What the last of all these texts is answered."""
    return say_all(list(texts) + list(more))[-1]


def rows(*things):
    """The list that has these things."""
    return "\n".join([str(len(things)), *things])


def probes():
    """Texts whose answers show, each by itself, what a house is like."""
    asked = [f"{word} {number}" for number in range(17) for word in ("proof", "why", "till", "copy")]
    asked = [text + " st" if text.startswith("copy") else text for text in asked]
    asked += ["due 400", "asks", "tick 1"]
    for name in NAMES:
        asked += [f"{word} {name}" for word in ("tell", "object", "ended", "person")]
        asked += [f"{word} {name} {thing}" for word in ("consent", "withdraw") for thing in ("news", "ads", "new")]
    for letter in "abcdefghijk":
        asked += [f"{word} {letter}" for word in ("void", "free", "deaf", "hears", "back")]
    asked += ["person zoe", "store zoe other", "ground zoe zoe law 1 made", "hold zoe ann any", "put ann mail"]
    return asked


def trace_of(texts):
    """What each probe alone is answered behind these texts."""
    return [last_of(texts, probe) for probe in probes()]


def random_texts(seed, many):
    """Texts to a house where a bit of everything is done; most of them fit what was said before."""
    dice = random.Random(seed)

    def who():
        return dice.choice(["ann", "ann", "bob"])

    def kind():
        return dice.choice(["mail", "mail", "bill"])

    def thing():
        return dice.choice(["news", "ads"])

    def letter():
        return dice.choice("abcdefgh")

    def days():
        return f"{dice.randint(0, 90)} {dice.choice(['made', 'used', 'ended'])}"

    def numbers():
        return ",".join([str(number) for number in sorted(dice.sample(range(5), dice.randint(1, 3)))])

    def copy():
        return f"copy {dice.randint(0, 6)} {dice.choice(['rolls', 'far', 'slow'])}"

    def seldom():
        return dice.choice([
            f"withdraw {who()} {thing()}", f"object {who()}", f"ended {who()}", f"forget {who()}",
            f"void {letter()}", f"free {letter()}", "back rolls", f"hold {letter()} {who()} mail",
            f"hold {letter()} {who()} any",
        ])

    makers = [
        lambda: f"ground {letter()} {kind()} law {days()}",
        lambda: f"ground {letter()} {kind()} need {days()}",
        lambda: f"ground {letter()} {kind()} for {thing()} {days()}",
        lambda: f"consent {who()} {thing()}",
        lambda: f"put {who()} {kind()}",
        lambda: f"put {who()} {kind()}",
        lambda: f"make {who()} {kind()} {numbers()}",
        lambda: f"make {who()} {kind()} {numbers()}",
        copy,
        copy,
        lambda: f"use {dice.randint(0, 6)}",
        lambda: f"tick {dice.randint(1, 12)}",
        lambda: dice.choice(["deaf far", "hears far"]),
        seldom,
    ]
    texts = ["person ann", "person bob", "store rolls roll 5", "store far other", "store slow roll 40"]
    while len(texts) < many:
        texts.append(dice.choice(makers)())
    return texts

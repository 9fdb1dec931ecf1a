"""Texts: their bytes, their words, the things that words tell, and the forms that texts have."""

MOST_BYTES = 80
LOWEST_BYTE = 32
HIGHEST_BYTE = 126
LETTERS = "abcdefghijklmnopqrstuvwxyz"
# All signs that stand in texts that are told; any other only makes a text fit no form.
SIGNS = " ,0123456789abcdefghijklmnopqrstuvwxyz"
OTHER_SIGN = "?"
NOT_NAMES = ("any", "main")
EVENTS = ("made", "used", "ended")


def is_text(codes):
    if len(codes) > MOST_BYTES:
        return False
    for code in codes:
        if code < LOWEST_BYTE or code > HIGHEST_BYTE:
            return False
    return True


def words_of(codes):
    """The words of a text's bytes; blanks that are too many give empty words, which fit no form."""
    known = {}
    for sign in SIGNS:
        known[ord(sign)] = sign
    return "".join([known.get(code, OTHER_SIGN) for code in codes]).split(" ")


def codes_of(text):
    return [ord(sign) for sign in text]


def listed(rows):
    return "\n".join([str(len(rows))] + rows)


def read_name(word):
    if not 1 <= len(word) <= 8 or word in NOT_NAMES:
        return None
    for sign in word:
        if sign not in LETTERS:
            return None
    return word


def read_name_or_any(word):
    if word == "any":
        return word
    return read_name(word)


def read_event(word):
    if word in EVENTS:
        return word
    return None


def read_number(word, lowest, highest):
    if not word.isdigit() or len(word) > 4:
        return None
    if len(word) > 1 and word.startswith("0"):
        return None
    number = int(word)
    if lowest <= number <= highest:
        return number
    return None


def read_span(word):
    return read_number(word, 0, 4000)


def read_days(word):
    return read_number(word, 1, 400)


def read_record(word):
    return read_number(word, 0, 99)


def read_records(word):
    """One to four rising records' numbers with commas between."""
    numbers = []
    for part in word.split(","):
        number = read_record(part)
        if number is None:
            return None
        if numbers and number <= numbers[-1]:
            return None
        numbers.append(number)
    if len(numbers) > 4:
        return None
    return numbers


READERS = {
    "NAME": read_name,
    "NAME-OR-ANY": read_name_or_any,
    "EVENT": read_event,
    "SPAN": read_span,
    "DAYS": read_days,
    "RECORD": read_record,
    "RECORDS": read_records,
}


def things_told(form, words):
    """What the words tell where the form has capitals, one behind another; None if they don't fit it."""
    slots = form.split(" ")
    if len(slots) != len(words):
        return None
    things = []
    for slot, word in zip(slots, words):
        reader = READERS.get(slot)
        if reader is not None:
            thing = reader(word)
            if thing is None:
                return None
            things.append(thing)
        elif slot != word:
            return None
    return things

"""All texts that are told, and what answers each."""

from keptrecords.grounds import add_hold, add_law_ground, add_need_ground, add_purpose_ground, free_hold, void_ground
from keptrecords.people import add_person, end_matter, forget_person, give_consent, raise_objection, withdraw_consent
from keptrecords.questions import tell_asks, tell_due, tell_person, tell_proof, tell_till, tell_why
from keptrecords.records import copy_record, make_record, pass_days, put_record, use_record
from keptrecords.stores import add_other_house, add_rolled_store, make_deaf, make_hearing, put_back
from keptrecords.words import things_told


def commands():
    return {
        "person NAME": add_person,
        "consent NAME NAME": give_consent,
        "withdraw NAME NAME": withdraw_consent,
        "object NAME": raise_objection,
        "ended NAME": end_matter,
        "forget NAME": forget_person,
        "ground NAME NAME law SPAN EVENT": add_law_ground,
        "ground NAME NAME need SPAN EVENT": add_need_ground,
        "ground NAME NAME for NAME SPAN EVENT": add_purpose_ground,
        "void NAME": void_ground,
        "store NAME roll DAYS": add_rolled_store,
        "store NAME other": add_other_house,
        "deaf NAME": make_deaf,
        "hears NAME": make_hearing,
        "put NAME NAME": put_record,
        "make NAME NAME RECORDS": make_record,
        "copy RECORD NAME": copy_record,
        "use RECORD": use_record,
        "hold NAME NAME NAME-OR-ANY": add_hold,
        "free NAME": free_hold,
        "back NAME": put_back,
        "tick DAYS": pass_days,
        "tell NAME": tell_person,
        "why RECORD": tell_why,
        "till RECORD": tell_till,
        "proof RECORD": tell_proof,
        "due DAYS": tell_due,
        "asks": tell_asks,
    }


def answer_to(house, words):
    for form, command in commands().items():
        things = things_told(form, words)
        if things is not None:
            return command(house, things)
    return "no form"

"""What is only asked, and changes nothing: tell, why, till, proof, due, asks."""

from keptrecords.forecast import days_of_going
from keptrecords.keeping import gives, is_hold_of, is_there
from keptrecords.records import record_refusal
from keptrecords.words import listed


def copy_row(kept):
    row = kept.store.name + " " + kept.state
    if kept.day is None:
        return row
    return row + " " + str(kept.day)


def ground_row(ground):
    row = ground.name + " " + ground.basis
    if ground.basis == "for":
        return row + " " + ground.purpose
    return row


def tell_person(house, things):
    name = things[0]
    if name not in house.people:
        return "no person"
    rows = []
    for record in house.records:
        if record.person.name == name:
            start = str(record.number) + " " + record.kind + " "
            rows.extend([start + copy_row(kept) for kept in record.copies if kept.state != "gone"])
    return listed(rows)


def tell_why(house, things):
    refusal = record_refusal(house, things[0])
    if refusal is not None:
        return refusal
    record = house.records[things[0]]
    rows = [ground_row(ground) for ground in house.grounds.values() if gives(house, ground, record)]
    rows.extend([hold.name + " hold" for hold in house.holds.values() if is_hold_of(hold, record)])
    return listed(rows)


def tell_till(house, things):
    refusal = record_refusal(house, things[0])
    if refusal is not None:
        return refusal
    day = days_of_going(house)[things[0]]
    if day is None:
        return "open"
    return str(day)


def tell_proof(house, things):
    number = things[0]
    if number >= len(house.records):
        return "no record"
    record = house.records[number]
    first = "kept" if is_there(record) else "gone " + str(record.gone_on)
    return listed([first] + [copy_row(kept) for kept in record.copies])


def tell_due(house, things):
    last = house.today + things[0]
    rows = []
    for number, day in enumerate(days_of_going(house)):
        if is_there(house.records[number]) and day is not None and day <= last:
            rows.append(f"{number} {day}")
    return listed(rows)


def tell_asks(house, things):
    rows = []
    for record in house.records:
        for kept in record.copies:
            if kept.state == "asked":
                rows.append(" ".join([str(record.number), kept.store.name, str(kept.day)]))
    return listed(rows)

"""The commands about records and days: put, make, copy, use, tick."""

from keptrecords.keeping import all_goes, is_there, may_be_kept, pass_day
from keptrecords.state import Copy, Record

MOST_RECORDS = 16


def record_refusal(house, number):
    """Why nothing can be done with the record of this number; None if it's there."""
    if number >= len(house.records):
        return "no record"
    if not is_there(house.records[number]):
        return "no gone"
    return None


def add_record(house, person, kind, sources):
    number = len(house.records)
    record = Record(number, person, kind, sources, house)
    if not may_be_kept(house, record):
        return "no ground"
    if number >= MOST_RECORDS:
        return "no many"
    house.records.append(record)
    all_goes(house)
    return f"ok {number}"


def put_record(house, things):
    person = house.people.get(things[0])
    if person is None:
        return "no person"
    return add_record(house, person, things[1], [])


def make_record(house, things):
    person = house.people.get(things[0])
    numbers = things[2]
    if person is None:
        return "no person"
    for number in numbers:
        if record_refusal(house, number) is not None:
            return "no record"
    return add_record(house, person, things[1], [house.records[number] for number in numbers])


def copy_record(house, things):
    refusal = record_refusal(house, things[0])
    if refusal is not None:
        return refusal
    record = house.records[things[0]]
    store = house.stores.get(things[1])
    if store is None:
        return "no store"
    if store.name in [kept.store.name for kept in record.copies]:
        return "no change"
    record.copies.append(Copy(store))
    return "ok"


def use_record(house, things):
    refusal = record_refusal(house, things[0])
    if refusal is not None:
        return refusal
    house.records[things[0]].used = house.today
    all_goes(house)
    return "ok"


def pass_days(house, things):
    for passed in range(things[0]):
        pass_day(house)
    return "ok " + str(house.today)

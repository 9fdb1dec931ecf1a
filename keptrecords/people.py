"""The commands about people: person, consent, withdraw, object, ended, forget."""

from keptrecords.keeping import all_goes
from keptrecords.state import Person

MOST_PEOPLE = 4
MOST_CONSENTS = 4


def add_person(house, things):
    name = things[0]
    if name in house.people:
        return "no name"
    if len(house.people) >= MOST_PEOPLE:
        return "no many"
    house.people[name] = Person(name)
    return "ok"


def give_consent(house, things):
    person = house.people.get(things[0])
    purpose = things[1]
    if person is None:
        return "no person"
    if purpose in person.consents:
        return "no change"
    if len(person.consents) >= MOST_CONSENTS:
        return "no many"
    person.consents[purpose] = True
    all_goes(house)
    return "ok"


def withdraw_consent(house, things):
    person = house.people.get(things[0])
    purpose = things[1]
    if person is None:
        return "no person"
    if purpose not in person.consents:
        return "no change"
    person.consents.pop(purpose)
    all_goes(house)
    return "ok"


def raise_objection(house, things):
    person = house.people.get(things[0])
    if person is None:
        return "no person"
    if person.objects:
        return "no change"
    person.objects = True
    all_goes(house)
    return "ok"


def end_matter(house, things):
    person = house.people.get(things[0])
    if person is None:
        return "no person"
    if person.ended is not None:
        return "no change"
    person.ended = house.today
    all_goes(house)
    return "ok"


def forget_person(house, things):
    person = house.people.get(things[0])
    if person is None:
        return "no person"
    person.consents = {}
    person.objects = True
    all_goes(house)
    return "ok"

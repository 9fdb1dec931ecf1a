"""The commands about what lets records be kept: ground, void, hold, free."""

from keptrecords.keeping import all_goes
from keptrecords.state import Ground, Hold

MOST_GROUNDS = 8
MOST_HOLDS = 4


def add_ground(house, ground):
    if ground.name in house.grounds:
        return "no name"
    if len(house.grounds) >= MOST_GROUNDS:
        return "no many"
    house.grounds[ground.name] = ground
    all_goes(house)
    return "ok"


def add_law_ground(house, things):
    return add_ground(house, Ground(things[0], things[1], "law", None, things[2], things[3]))


def add_need_ground(house, things):
    return add_ground(house, Ground(things[0], things[1], "need", None, things[2], things[3]))


def add_purpose_ground(house, things):
    return add_ground(house, Ground(things[0], things[1], "for", things[2], things[3], things[4]))


def void_ground(house, things):
    name = things[0]
    if name not in house.grounds:
        return "no name"
    house.grounds.pop(name)
    all_goes(house)
    return "ok"


def add_hold(house, things):
    name = things[0]
    person = house.people.get(things[1])
    if name in house.holds:
        return "no name"
    if person is None:
        return "no person"
    if len(house.holds) >= MOST_HOLDS:
        return "no many"
    house.holds[name] = Hold(name, person, things[2])
    return "ok"


def free_hold(house, things):
    name = things[0]
    if name not in house.holds:
        return "no name"
    house.holds.pop(name)
    all_goes(house)
    return "ok"

"""The commands about stores: store, deaf, hears, back."""

from keptrecords.keeping import all_goes, is_there, let_go
from keptrecords.state import Store

MOST_STORES = 4


def add_store(house, store):
    if store.name in house.stores:
        return "no name"
    if len(house.stores) >= MOST_STORES:
        return "no many"
    house.stores[store.name] = store
    return "ok"


def add_rolled_store(house, things):
    return add_store(house, Store(things[0], "roll", things[1]))


def add_other_house(house, things):
    return add_store(house, Store(things[0], "other", 0))


def store_of_way(house, name, way):
    store = house.stores.get(name)
    if store is None or store.way != way:
        return None
    return store


def set_hearing(house, name, hears):
    store = store_of_way(house, name, "other")
    if store is None:
        return "no store"
    store.hears = hears
    all_goes(house)
    return "ok"


def make_deaf(house, things):
    return set_hearing(house, things[0], False)


def make_hearing(house, things):
    return set_hearing(house, things[0], True)


def lies_in(record, store):
    for kept in record.copies:
        if kept.store.name == store.name:
            return kept.state != "gone"
    return False


def put_back(house, things):
    store = store_of_way(house, things[0], "roll")
    if store is None:
        return "no store"
    back = [record for record in house.records if is_there(record) and lies_in(record, store)]
    lost = [record for record in house.records if is_there(record) and not lies_in(record, store)]
    away = [record for record in house.records if not is_there(record) and lies_in(record, store)]
    for record in lost:
        let_go(house, record)
    # What was made of a lost record may go now, too; it was put back all the same.
    all_goes(house)
    return " ".join(["ok", str(len(back)), str(len(lost)), str(len(away))])

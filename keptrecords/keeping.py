"""Which records may be kept, how they're let go, and how their copies follow."""


def days_end(ground, record):
    """The first day on which the ground's days are over; None: they don't run yet, the matter goes on."""
    if ground.event == "made":
        return record.made + ground.span
    if ground.event == "used":
        return record.used + ground.span
    if record.person.ended is None:
        return None
    return record.person.ended + ground.span


def is_there(record):
    return record.gone_on is None


def sources_there(record):
    for source in record.sources:
        if not is_there(source):
            return False
    return True


def stands_for(ground, record):
    """Whether the ground is for the record and has all that it needs, whatever the day."""
    if ground.kind != record.kind:
        return False
    if ground.basis == "law":
        return True
    if ground.basis == "for" and ground.purpose not in record.person.consents:
        return False
    if ground.basis == "need" and record.person.objects:
        return False
    return sources_there(record)


def gives(house, ground, record):
    if not stands_for(ground, record):
        return False
    end = days_end(ground, record)
    return end is None or house.today < end


def is_hold_of(hold, record):
    return hold.person.name == record.person.name and hold.kind in ("any", record.kind)


def is_held(house, record):
    for hold in house.holds.values():
        if is_hold_of(hold, record):
            return True
    return False


def may_be_kept(house, record):
    for ground in house.grounds.values():
        if gives(house, ground, record):
            return True
    return is_held(house, record)


def set_copy(kept, state, day):
    kept.state = state
    kept.day = day


def let_go(house, record):
    today = house.today
    record.gone_on = today
    for kept in record.copies:
        if kept.store.way == "main":
            set_copy(kept, "gone", today)
        elif kept.store.way == "roll":
            set_copy(kept, "going", today + kept.store.turn)
        else:
            set_copy(kept, "asked", today)


def is_settled_today(house, kept):
    if kept.state == "going":
        return kept.day <= house.today
    return kept.state == "asked" and kept.store.hears


def settle_copies(house, record):
    for kept in record.copies:
        if is_settled_today(house, kept):
            set_copy(kept, "gone", house.today)


def all_goes(house):
    """All that goes goes: first each record that may not be kept, then the copies are settled."""
    # Sources have lower numbers, so one walk sees each record by what's there by then.
    for record in house.records:
        if is_there(record) and not may_be_kept(house, record):
            let_go(house, record)
    for record in house.records:
        if not is_there(record):
            settle_copies(house, record)


def pass_day(house):
    house.today += 1
    all_goes(house)

"""When records would be let go, if nothing's done."""

from keptrecords.keeping import days_end, is_held, is_there, stands_for

DAYS_AHEAD = 400


def ground_end(ground, record, ends, beyond):
    """The first day on which the ground gives the record no more, beyond at the latest."""
    end = days_end(ground, record)
    if end is None:
        end = beyond
    if ground.basis != "law":
        for source in record.sources:
            end = min(end, ends[source.number])
    return min(end, beyond)


def record_end(house, record, ends, beyond):
    if not is_there(record):
        return record.gone_on
    if is_held(house, record):
        return beyond
    end = house.today
    for ground in house.grounds.values():
        if stands_for(ground, record):
            end = max(end, ground_end(ground, record, ends, beyond))
    return end


def days_of_going(house):
    """For each record, by its number, the day on which it goes or went; None: not within the days ahead."""
    beyond = house.today + DAYS_AHEAD + 1
    ends = []
    # Sources have lower numbers, so their ends are known by then.
    for record in house.records:
        ends.append(record_end(house, record, ends, beyond))
    return [None if end == beyond else end for end in ends]

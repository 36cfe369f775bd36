"""Schedules: when cycles can run at the earliest, when they must at the latest, and whether plans can be kept.

The times of a stage are the pairs (start, finish) of its cycles, those of a plant a
row for each stage. The hours of a buffer are those at which its units are there.
"""

from plantrace.completion import completed, require_at_most
from plantrace.curves import increment, value
from plantrace.hours import finish, latest_start
from plantrace.plants import CALENDAR, DURATION, INPUTS, OUTPUTS, PARALLELISM, materials, products, writer_places
from plantrace.requirements import required
from plantrace.stages import positions_taken, producing_cycle, units_produced, use
from plantrace.states import MOST


def earliest(plant, arrivals):
    """The times of the plant in the earliest schedule, and the hours of all products."""
    times, hours = timetable(plant, arrivals)
    return times, tuple([(product, hours[product]) for product in products(plant)])


def timetable(plant, arrivals):
    """The times of the plant in the earliest schedule, and for each buffer its hours."""
    cycles, units, _ = completed(plant, quantities(arrivals))
    require_at_most(MOST, cycles, dict(units))
    hours = arriving(plant, arrivals)
    times = []
    for stage, many in zip(plant, cycles):
        times.append(earliest_times(stage, many, hours))
        hours.update(hours_written(stage, times[-1]))
    return tuple(times), hours


def quantities(pairs):
    """The pairs (buffer, units) for pairs (buffer, hours), an hour for each unit."""
    return tuple([(buffer, len(hours)) for buffer, hours in pairs])


def arriving(plant, arrivals):
    """For each material the hours at which its units arrive."""
    hours = dict(arrivals)
    return {material: hours.get(material, ()) for material in materials(plant)}


def earliest_times(stage, many, hours):
    """The times of the first cycles of the stage, with the hours of the buffers that it reads."""
    rows = []
    for cycle in range(1, many + 1):
        begin = max([0] + hours_wanted(stage, cycle, hours) + slot_hours(stage, cycle, rows))
        end = work_end(stage, cycle, begin)
        rows.append((begin, max([end] + [row[1] for row in rows[-1:]])))
    return tuple(rows)


def hours_wanted(stage, cycle, hours):
    """For each input the hour from which on the last unit is there that the first cycles consume."""
    return [hour_at(feed, value(feed[1], cycle), hours) for feed in stage[INPUTS]]


def hour_at(feed, position, hours):
    """The hour from which on the unit at the position is there, 0 without a unit, None if it never is."""
    buffer, _, stock, _ = feed
    if position <= stock:
        return 0
    there = hours[buffer]
    return there[position - stock - 1] if position - stock <= len(there) else None


def slot_hours(stage, cycle, rows):
    """The finish of the cycle that must finish before this one starts, as a list of at most one."""
    before = cycle - stage[PARALLELISM]
    return [rows[before - 1][1]] if before > 0 else []


def work_end(stage, cycle, begin):
    """The hour at which the work of the cycle finishes when it starts at this hour."""
    return finish(stage[CALENDAR], begin, increment(stage[DURATION], cycle - 1))


def hours_written(stage, rows):
    """For each buffer that the stage writes the hours of its units, with the times of the stage."""
    return {
        output[0]: tuple([
            row[1] for cycle, row in enumerate(rows, start=1) for _ in range(increment(output[1], cycle - 1))
        ])
        for output in stage[OUTPUTS]
    }


def critical_chain(plant, arrivals, stage, cycle):
    """The links that go back from the finish of the cycle in the earliest schedule."""
    times, hours = timetable(plant, arrivals)
    links, word = [], None
    while word not in ("begin", "arrival"):
        if word == "work":
            links.append(start_link(plant, times, hours, stage, cycle))
        else:
            links.append(finish_link(plant, times, stage, cycle))
        word, _, _ = links[-1]
        stage, cycle = link_cycle(plant, links[-1])
    return tuple(links)


def finish_link(plant, times, number, cycle):
    """The link at the finish of the cycle."""
    begin, end = times[number][cycle - 1]
    if end == work_end(plant[number], cycle, begin):
        return "work", number, cycle
    return "after", number, cycle - 1


def start_link(plant, times, hours, number, cycle):
    """The link at the start of the cycle."""
    begin, _ = times[number][cycle - 1]
    if begin == 0:
        return "begin", number, cycle
    stage = plant[number]
    wanted = hours_wanted(stage, cycle, hours)
    if begin not in wanted:
        return "slot", number, cycle - stage[PARALLELISM]
    buffer, consumption, stock, _ = stage[INPUTS][wanted.index(begin)]
    word = "unit" if buffer in writer_places(plant) else "arrival"
    return word, buffer, value(consumption, cycle) - stock


def link_cycle(plant, link):
    """The stage and the cycle of the link, for a unit those that produced it, if it was produced."""
    word, number, at = link
    if word != "unit":
        return number, at
    stage, place = writer_places(plant)[number]
    return stage, producing_cycle(plant[stage][OUTPUTS][place], at)


def is_feasible(plant, arrivals, plan):
    """True if the plan is feasible for the arrivals."""
    return first_violation(plant, arrivals, plan) is None


def first_violation(plant, arrivals, plan):
    """What the first cycle breaks that breaks a rule, or None if the plan is feasible."""
    hours = arriving(plant, arrivals)
    for number, (stage, rows) in enumerate(zip(plant, plan)):
        for cycle in range(1, len(rows) + 1):
            found = violation(stage, number, cycle, rows, hours)
            if found is not None:
                return found
        hours.update(hours_written(stage, rows))
    return None


def violation(stage, number, cycle, rows, hours):
    """The first rule that the cycle breaks, or None."""
    begin, end = rows[cycle - 1]
    missing = missing_unit(stage, cycle, begin, hours)
    if missing is not None:
        return ("unit", number, cycle) + missing
    if any([row[0] > begin or row[1] > end for row in rows[cycle - 2:cycle - 1]]):
        return "order", number, cycle
    if any([hour > begin for hour in slot_hours(stage, cycle, rows)]):
        return "slot", number, cycle
    if end < begin or open_between(stage[CALENDAR], begin, end) < increment(stage[DURATION], cycle - 1):
        return "work", number, cycle
    return None


def missing_unit(stage, cycle, begin, hours):
    """The input and the position of the first unit that is taken and not there at the start, or None."""
    for place, feed in enumerate(stage[INPUTS]):
        for position in positions_taken(feed, cycle):
            hour = hour_at(feed, position, hours)
            if hour is None or hour > begin:
                return place, position
    return None


def open_between(calendar, begin, end):
    """How many of the hours from the begin to before the end are open."""
    return value(calendar, end) - value(calendar, begin)


def latest(plant, due):
    """True if the due hours are feasible, the times of the latest schedule, and the hours of all materials."""
    units, cycles = required(plant, quantities(due))
    require_at_most(MOST, cycles, units)
    needed = dict(due)
    times = []
    for stage, many in reversed(list(zip(plant, cycles))):
        times.append(latest_times(stage, many, needed))
        needed.update(hours_needed(stage, times[-1], units))
    feasible = all([None not in rows for rows in times])
    return feasible, tuple(times[::-1]), tuple([(material, needed[material]) for material in materials(plant)])


def latest_times(stage, many, needed):
    """The latest times of the required cycles, None for a cycle that has none."""
    rows = [None] * many
    for cycle in range(many, 0, -1):
        rows[cycle - 1] = latest_time(stage, cycle, rows, needed)
    return tuple(rows)


def latest_time(stage, cycle, rows, needed):
    """The latest start and finish of the cycle, or None, with those of all later cycles."""
    after = rows[cycle:cycle + 1]
    slot = rows[cycle + stage[PARALLELISM] - 1:cycle + stage[PARALLELISM]]
    hours = hours_of_products(stage, cycle, needed)
    if None in hours + after + slot:
        return None
    end = min(hours + [row[1] for row in after] + [row[0] for row in slot])
    begin = latest_start(stage[CALENDAR], end, increment(stage[DURATION], cycle - 1))
    return None if begin is None else (min([begin] + [row[0] for row in after]), end)


def hours_of_products(stage, cycle, needed):
    """The hours by which the required units must be there that the cycle produces."""
    hours = []
    for output in stage[OUTPUTS]:
        there = needed.get(output[0], ())
        hours.extend([there[unit - 1] for unit in units_produced(output, cycle) if unit <= len(there)])
    return hours


def hours_needed(stage, rows, units):
    """For each buffer that the stage reads the hours by which its required units must be there."""
    found = {}
    for feed in stage[INPUTS]:
        buffer, _, stock, _ = feed
        takers = [rows[use(feed, stock + unit)[0] - 1] for unit in range(1, units[buffer] + 1)]
        found[buffer] = tuple([None if row is None else row[0] for row in takers])
    return found

"""Events: what each of them changes in what a tracker knows, and what is told of it.

What is known is a dict that is never changed; an event that does something gives
another one. Of each event the answer is a pair: what is known then, and what is told.
"""

from plantrace.completion import totals_read
from plantrace.diagnosis import all_worst_fit
from plantrace.disruptions import disrupted, replaced
from plantrace.errors import TooMuch
from plantrace.faults import is_valid
from plantrace.orders import expedited, has_started
from plantrace.plants import check_plant, materials, products
from plantrace.stages import supported
from plantrace.states import loaded, state_totals, totals

MOST_LOTS = 4
MOST_DISRUPTIONS = 4
MOST_ORDERS = 6
MOST_OBSERVATIONS = 4


def beginning(plant):
    """What is known of the plant before the first event."""
    check_plant(plant)
    loaded(plant, ())
    return {
        "plant": plant, "lots": (), "cycles": (0,) * len(plant), "hours": (), "disruptions": 0,
        "orders": (), "sequence": (), "observations": (),
    }


def state_of(known):
    """The state of the plant."""
    return known["plant"], known["lots"], known["cycles"]


def receive_lot(known, event):
    """Receives the lot; its number is told."""
    _, material, quantity, cost, hour = event
    lots = known["lots"] + ((material, quantity, cost),)
    if material not in materials(known["plant"]) or len(lots) > MOST_LOTS:
        return known, None
    hours = known["hours"] + (hour,)
    if was_later(lots, hours) or not can_be_loaded(known["plant"], lots):
        return known, None
    return {**known, "lots": lots, "hours": hours}, len(lots) - 1


def was_later(lots, hours):
    """True if a lot of the last lot's material was received at a later hour than that one."""
    return any([lot[0] == lots[-1][0] and hour > hours[-1] for lot, hour in zip(lots, hours)])


def can_be_loaded(plant, lots):
    """True if on completion of the lots there is nothing too much."""
    try:
        loaded(plant, lots)
    except TooMuch:
        return False
    return True


def run_stage(known, event):
    """Runs the stage; the number of cycles now run is told."""
    _, number, many = event
    if number >= len(known["plant"]):
        return known, 0
    ran = min(many, cycles_ready(known, number))
    return with_runs(known, number, ran), ran


def run_all(known, _):
    """Runs all that can be run; the numbers of cycles now run are told."""
    ran = []
    for number in range(len(known["plant"])):
        ran.append(cycles_ready(known, number))
        known = with_runs(known, number, ran[-1])
    return known, tuple(ran)


def cycles_ready(known, number):
    """How many further cycles the stage supports."""
    stage = known["plant"][number]
    there = state_totals(state_of(known))
    return supported(stage, totals_read(stage, there)) - known["cycles"][number]


def with_runs(known, number, many):
    """What is known when the stage has run so many further cycles."""
    cycles = known["cycles"]
    return {**known, "cycles": replaced(cycles, number, cycles[number] + many)}


def disrupt(known, event):
    """Changes the plant, if the disruption is applicable; told as True or False."""
    _, disruption = event
    changed = disrupted(known["plant"], known["cycles"], disruption)
    many = known["disruptions"] + 1
    if changed is None or many > MOST_DISRUPTIONS:
        return known, False
    return {**known, "plant": changed, "disruptions": many}, True


def add_order(known, event):
    """Adds the order; its number is told."""
    _, product, quantity, due = event
    number = len(known["orders"])
    if product not in products(known["plant"]) or number >= MOST_ORDERS:
        return known, None
    orders = known["orders"] + ((product, quantity, due),)
    return {**known, "orders": orders, "sequence": known["sequence"] + (number,)}, number


def expedite(known, event):
    """Expedites the order; its place in the sequence is told."""
    _, order = event
    orders, sequence, there = known["orders"], known["sequence"], totals(state_of(known))
    if order >= len(orders) or has_started(orders, sequence, order, there):
        return known, None
    sequence = expedited(orders, sequence, order, there)
    return {**known, "sequence": sequence}, sequence.index(order)


def observe(known, event):
    """Adds the observation, if some scenario is consistent with all of them; told as True or False."""
    _, observation = event
    state, observations = state_of(known), known["observations"] + (observation,)
    if len(observations) > MOST_OBSERVATIONS or not is_valid(state, observation):
        return known, False
    if not all_worst_fit(state, observations):
        return known, False
    return {**known, "observations": observations}, True


ACTIONS = {
    "receive": receive_lot, "run": run_stage, "run_all": run_all, "disrupt": disrupt,
    "order": add_order, "expedite": expedite, "observe": observe,
}


def behind_event(known, event):
    """What is known behind the event, and what is told of it."""
    action = ACTIONS[event[0]]
    return action(known, event)

"""The tracker: follows the production of a plant, event by event."""

from plantrace.diagnosis import recall
from plantrace.disruptions import loss
from plantrace.errors import NothingToUndo
from plantrace.events import beginning, behind_event, state_of
from plantrace.orders import dates, order_of
from plantrace.plants import products
from plantrace.ranges import numbers_of
from plantrace.records import exists, record
from plantrace.schedules import earliest
from plantrace.states import totals


class Tracker:
    """A plant with its lots, cycles, observations and orders, and the log of all its events."""

    def __init__(self, plant):
        # Known k is what is known behind the first k events of the log.
        self._known = [beginning(plant)]
        self._log = ()

    @classmethod
    def replayed(cls, plant, log):
        """A new tracker of the plant to which the events of the log have been applied."""
        tracker = cls(plant)
        for event in log:
            tracker.apply(event)
        return tracker

    @property
    def plant(self):
        """The current plant."""
        return self._known[-1]["plant"]

    @property
    def original(self):
        """The plant with which the tracker was made."""
        return self._known[0]["plant"]

    @property
    def state(self):
        """The state (plant, lots, cycles)."""
        return state_of(self._known[-1])

    @property
    def observations(self):
        """The observations, in the order in which they were accepted."""
        return self._known[-1]["observations"]

    @property
    def orders(self):
        """The orders (product, quantity, due)."""
        return self._known[-1]["orders"]

    @property
    def sequence(self):
        """The sequence of all orders."""
        return self._known[-1]["sequence"]

    @property
    def log(self):
        """All events that were applied, accepted or not."""
        return self._log

    def __len__(self):
        return len(self._log)

    def __iter__(self):
        return iter(self._log)

    def __contains__(self, x):
        buffer, unit = x
        return exists(self.state, buffer, unit)

    def apply(self, event):
        """Applies the event and returns what is told of it."""
        known, told = behind_event(self._known[-1], event)
        self._known.append(known)
        self._log = self._log + (event,)
        return told

    def undo(self, many=1):
        """Takes the last events away and returns them in the order in which they were applied."""
        kept = len(self._log) - many
        if kept < 0:
            raise NothingToUndo(f"there are no {many} events to undo")
        undone = self._log[kept:]
        self._log = self._log[:kept]
        self._known = self._known[:kept + 1]
        return undone

    def rehearse(self, events):
        """What would be told of the events; nothing is changed."""
        known, answers = self._known[-1], []
        for event in events:
            known, told = behind_event(known, event)
            answers.append(told)
        return tuple(answers)

    def recall(self, *, most=1):
        """What may be defective and what must be, by the observations."""
        return recall(self.state, self.observations, most=most)

    def schedule(self):
        """The earliest schedule of the current plant when the lots arrive at their hours."""
        plant, lots, _ = self.state
        arrivals = {}
        for (material, quantity, _), hour in zip(lots, self._known[-1]["hours"]):
            arrivals[material] = arrivals.get(material, ()) + (hour,) * quantity
        return earliest(plant, tuple(arrivals.items()))

    def order_dates(self):
        """The dates of the orders in their sequence, by the schedule."""
        _, availability = self.schedule()
        return dates(self.orders, self.sequence, availability)

    def affected_orders(self, *, most=1):
        """The numbers of the orders that get a recalled unit."""
        recalled, _ = self.recall(most=most)
        found = [
            order_of(self.orders, self.sequence, product, unit)
            for product, ranges in recalled for unit in numbers_of(ranges)
        ]
        return tuple(sorted({order for order in found if order is not None}))

    def losses(self):
        """The pairs (product, loss) of all products by the changes of the plant."""
        return tuple([(product, loss(self.original, self.plant, product)) for product in products(self.plant)])

    def each_record(self):
        """Yields (buffer, unit, stage, cycle, components) of all units that stages have produced."""
        state = self.state
        for buffer, units in totals(state):
            for unit in range(1, units + 1):
                number, cycle, _, components = record(state, buffer, unit)
                if number is not None:
                    yield buffer, unit, number, cycle, components

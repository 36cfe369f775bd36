"""Points 105 to 107: disruptions, losses, worst receipts; 7 and 8 where they touch these."""

import unittest

from plantrace.bills import bill_plant
from plantrace.capacity import capacities
from plantrace.completion import completed
from plantrace.disruptions import disrupted, loss, worst_receipts
from plantrace.errors import TooLarge, TooMuch
from plantrace.plants import buffers, check_plant, depends, materials
from tests.plain import Floor, Maker, alone, is_normal, longer, step
from tests.plain_capacity import sizes
from tests.samples import EACH, PARTS, REST, STAGE, line

WORDS = ("yield", "extra", "slow", "cost")


def any_disruption(maker):
    word, number = maker.choice(WORDS), maker.choice((0, 0, 1, maker.number(0, 4)))
    places = (maker.choice((0, 0, 1, maker.number(0, 4))),) if word in ("yield", "extra") else ()
    return (word, number) + places + (maker.number(1, 12), maker.choice((1, 1, maker.number(1, 4))))


def parts_of(plant):
    """All parts of a plant by their ways into it, but curves whole."""
    found = {}
    for s, (feeds, outputs, cost, duration, parallelism, calendar) in enumerate(plant):
        found.update({(s, "cost"): cost, (s, "slow"): duration, (s, "beside"): (parallelism, calendar)})
        for i, (buffer, consumption, stock, tool) in enumerate(feeds):
            found.update({(s, "extra", i): consumption, (s, "feed", i): (buffer, stock, tool)})
        for o, (buffer, production, weight) in enumerate(outputs):
            found.update({(s, "yield", o): production, (s, "output", o): (buffer, weight)})
    return found


def with_other(plant, disruption, increments):
    """True if the plant's curve that the disruption names is normal and has these first increments."""
    word, number, *places, _, _ = disruption
    curve = parts_of(plant)[(number, word, *places)]
    return is_normal(curve) and [step(curve, k) for k in range(len(increments))] == increments


class DisruptedTest(unittest.TestCase):
    def test_examples_of_the_document(self):
        changed = disrupted((STAGE,), (1,), ("yield", 0, 0, 3, 2))
        self.assertEqual(changed[0][1], ((2, (0, (0, 1, 0), (1, 2)), 1),))
        self.assertEqual(changed, (STAGE[:1] + (((2, (0, (0, 1, 0), (1, 2)), 1),),) + STAGE[2:],))
        self.assertIsNone(disrupted((STAGE,), (3,), ("yield", 0, 0, 3, 2)))

    def test_any_disruptions(self):
        maker, seen = Maker(105), set()
        for _ in range(1500):
            plant, disruption = maker.plant(), any_disruption(maker)
            cycles = tuple(maker.choice((0, 0, maker.number(0, 24))) for _ in plant)
            word, number, *places, cycle, amount = disruption
            before = parts_of(plant)
            place = (number, word, *places)
            changed = disrupted(plant, cycles, disruption)
            curve = before.get(place)
            fits = curve is not None and cycles[number] < cycle
            if fits and word == "yield":
                fits = step(curve, cycle - 1) >= amount
            if fits and word == "extra" and before[number, "feed", places[0]][2]:
                fits = step(curve, cycle - 1) == 0 and amount == 1
            seen.add((word, fits))
            if not fits:
                self.assertIsNone(changed, (plant, cycles, disruption))
                continue
            steps = [step(curve, k) for k in range(40)]
            steps[cycle - 1] += -amount if word == "yield" else amount
            self.assertTrue(with_other(changed, disruption, steps))
            after = parts_of(changed)
            self.assertEqual({**before, place: after[place]}, after)
            check_plant(changed)
        self.assertEqual(seen, {(word, fits) for word in WORDS for fits in (True, False)})

    def test_no_such_stage_input_or_output(self):
        for disruption in (
                ("yield", 1, 0, 5, 1), ("extra", 1, 0, 5, 1), ("slow", 1, 5, 1), ("cost", 4, 5, 1),
                ("yield", 0, 1, 5, 1), ("extra", 0, 2, 5, 1), ("yield", 0, 4, 5, 1)):
            self.assertIsNone(disrupted((STAGE,), (0,), disruption))
        self.assertIsNotNone(disrupted((STAGE,), (0,), ("extra", 0, 1, 5, 1)))

    def test_cycles_that_have_been_run(self):
        for disruption in (("yield", 0, 0, 5, 1), ("extra", 0, 1, 5, 1), ("slow", 0, 5, 1), ("cost", 0, 5, 1)):
            self.assertEqual([disrupted((STAGE,), (ran,), disruption) is None for ran in (0, 4, 5, 6, 24)],
                             [False, False, True, True, True])

    def test_other_stages_that_have_run(self):
        plant = line((EACH, 0, EACH), (EACH, 0, EACH))
        self.assertIsNotNone(disrupted(plant, (24, 0), ("slow", 1, 1, 1)))
        self.assertIsNone(disrupted(plant, (0, 24), ("slow", 1, 1, 1)))

    def test_an_increment_and_an_amount(self):
        plant = line((EACH, 0, (0, (), (3,))))
        self.assertEqual([disrupted(plant, (0,), ("yield", 0, 0, 2, amount)) is None for amount in (1, 2, 3, 4)],
                         [False, False, False, True])
        self.assertEqual(disrupted(plant, (0,), ("yield", 0, 0, 2, 3))[0][1], ((1, (0, (3, 0), (3,)), 1),))
        self.assertIsNone(disrupted((STAGE,), (0,), ("yield", 0, 0, 1, 1)))

    def test_tool_inputs(self):
        feeds = ((0, (0, (1,), (0, 1)), 2, True), (1, EACH, 0, False))
        plant = ((feeds, ((2, EACH, 1),)) + REST,)
        for cycle, amount, fits in ((1, 1, 0), (2, 1, 1), (2, 2, 0), (3, 1, 0), (4, 1, 1), (4, 3, 0)):
            changed = disrupted(plant, (0,), ("extra", 0, 0, cycle, amount))
            self.assertEqual(changed is not None, fits)
        changed = disrupted(plant, (0,), ("extra", 0, 0, 4, 1))
        self.assertEqual(changed[0][0][0], (0, (0, (1, 0, 1, 1), (1, 0)), 2, True))
        self.assertEqual(disrupted(plant, (0,), ("extra", 0, 1, 1, 4))[0][0][1], (1, (0, (5,), (1,)), 0, False))

    def test_cycles_behind_the_transient_part(self):
        plant = (STAGE[:2] + ((0, (7,), (1, 2, 3)), (0, (), (0,)), 1, EACH),)
        for cycle, amount, wanted in (
                (1, 4, (0, (11,), (1, 2, 3))), (2, 1, (0, (7, 2), (2, 3, 1))), (4, 4, (0, (7, 1, 2, 7), (1, 2, 3))),
                (6, 1, (0, (7, 1, 2, 3, 1, 3), (3, 1, 2)))):
            self.assertEqual(disrupted(plant, (0,), ("cost", 0, cycle, amount))[0][2], wanted)
        self.assertEqual(disrupted(plant, (0,), ("slow", 0, 3, 2))[0][3], (0, (0, 0, 2), (0,)))

    def test_the_changed_curve_is_in_normal_form_and_only_this_one(self):
        odd = longer((0, (2,), (1, 3)), 2, 1)
        tool = (1, longer((0, (), (1, 0)), 3, 2), 3, True)
        plant = ((((0, odd, 1, False), tool), ((2, odd, 1), (3, odd, 4)), odd, odd, 2, longer(EACH, 2, 2)),)
        self.assertFalse(is_normal(odd))
        changed = disrupted(plant, (0,), ("extra", 0, 0, 2, 1))
        self.assertEqual(changed, ((((0, (0, (2, 2), (3, 1)), 1, False), tool),) + plant[0][1:],))
        changed = disrupted(plant, (0,), ("yield", 0, 1, 1, 2))
        self.assertEqual(changed[0][1], ((2, odd, 1), (3, (0, (0,), (1, 3)), 4)))
        self.assertEqual(changed[0][:1] + changed[0][2:], plant[0][:1] + plant[0][2:])
        changed = disrupted(plant, (0,), ("slow", 0, 1, 1))
        self.assertEqual(changed, (plant[0][:3] + ((0, (), (3, 1)),) + plant[0][4:],))

    def test_a_disruption_that_makes_the_curve_shorter(self):
        plant = line((EACH, 0, (0, (3,), (1,))))
        self.assertEqual(disrupted(plant, (0,), ("yield", 0, 0, 1, 2)), line((EACH, 0, EACH)))

    def test_one_behind_another(self):
        plant, changed = (STAGE,), (STAGE,)
        more, late, less = ("extra", 0, 0, 2, 4), ("extra", 0, 0, 12, 1), ("yield", 0, 0, 12, 1)
        for disruption in (more, more, late, less):
            changed = disrupted(changed, (1,), disruption)
        self.assertEqual([step(changed[0][0][0][1], k) for k in range(14)], [1, 9] + [1] * 9 + [2, 1, 1])
        self.assertEqual([step(changed[0][1][0][1], k) for k in range(14)], [0, 1, 2, 1, 2, 1, 2, 1, 2, 1, 2, 0, 2, 1])
        self.assertEqual(plant, (STAGE,))

    def test_the_plant_of_a_bill(self):
        plant = bill_plant((((), EACH, 3), (((0, (0, (), (2,))),), EACH, 0)))
        self.assertEqual(disrupted(plant, (0,), ("cost", 0, 1, 2))[0][2], (0, (2,), (0,)))


class LossTest(unittest.TestCase):
    def test_examples_of_the_document(self):
        changed = disrupted((STAGE,), (1,), ("yield", 0, 0, 3, 2))
        self.assertEqual(loss((STAGE,), changed, 2), 2)
        self.assertEqual(worst_receipts((STAGE,), changed, 2), ((0, 3), (1, 3)))

    def reshaped(self, maker, plant):
        """A plant of the same shape with some other curves, stocks and rates."""
        if maker.number(0, 2):
            for _ in range(maker.number(1, 4)):
                plant = disrupted(plant, (0,) * len(plant), any_disruption(maker)) or plant
            return plant
        def feed(row):
            return (row[0],) + maker.feed(0)[1:] if maker.number(0, 3) == 0 else row
        def output(row):
            return row[:1] + (maker.flow(), 1) if maker.number(0, 3) == 0 else row
        return tuple((tuple(map(feed, feeds)), tuple(map(output, outputs))) + tuple(rest)
                     for feeds, outputs, *rest in plant)

    def total(self, plant, receipts, buffer):
        floor = Floor(plant)
        floor.complete(receipts)
        return None if floor.is_too_much() else floor.totals[buffer]

    def small(self, plant):
        """True if all capacities of the plant rise slowly enough to be worked out unit by unit."""
        return all(units < 200 for material in materials(plant) for units in alone(plant, material, 12)[1].values())

    def small_changes(self, maker, many):
        """So many pairs of small plants of the same shape, with the losses of all their buffers."""
        while many > 0:
            plant = maker.plant()
            changed = self.reshaped(maker, plant)
            if changed == plant or not self.small(plant) or not self.small(changed):
                continue
            try:
                losses = {buffer: loss(plant, changed, buffer) for buffer in buffers(plant)}
            except TooLarge:
                continue
            many -= 1
            yield plant, changed, losses

    def test_completions_of_many_receipts(self):
        maker, seen = Maker(106), {}
        for plant, changed, losses in self.small_changes(maker, 60):
            for buffer, most in losses.items():
                self.agree(maker, plant, changed, buffer, most)
                kind = most if most is None or most == 0 else "some"
                seen[kind] = seen.get(kind, 0) + 1
        self.assertEqual(set(seen), {None, 0, "some"})
        self.assertGreater(min(seen.values()), 8)

    def agree(self, maker, plant, changed, buffer, most):
        worst = worst_receipts(plant, changed, buffer)
        if most is None or most == 0:
            self.assertIsNone(worst)
        else:
            self.assertEqual(tuple(material for material, _ in worst), depends(plant, buffer))
            before, after = (self.total(version, worst, buffer) for version in (plant, changed))
            self.assertIn((before is None, after is None), ((False, False), (True, False), (True, True)))
            if before is not None:
                self.assertEqual(before - after, most)
        for _ in range(6):
            receipts = maker.receipts(plant, 12)
            before, after = (self.total(version, receipts, buffer) for version in (plant, changed))
            if most is not None and before is not None and after is not None:
                self.assertLessEqual(before - after, most)

    def test_by_material_cycle_by_cycle(self):
        """The loss with so many units of one material, when there is enough of all others."""
        for plant, changed, losses in self.small_changes(Maker(1060), 40):
            before, after = (
                {(row, many): alone(version, row, many)[1] for row in materials(plant) for many in range(30)}
                for version in (plant, changed)
            )
            for buffer, most in losses.items():
                gaps = {
                    (before[material, many][buffer] - after[material, many][buffer], -material, -many)
                    for material in depends(plant, buffer) for many in range(30)
                }
                gap, material, units = max(gaps)
                self.assertTrue(most is None or gap <= most)
                found = worst_receipts(plant, changed, buffer)
                if found is not None and max(many for _, many in found) < 30:
                    self.assertEqual(gap, most)
                    self.assertEqual(found, self.worst(plant, buffer, -material, -units))

    def worst(self, plant, buffer, material, units):
        """So many units of the material, and the least units of the others that allow as much, counted up."""
        wanted = alone(plant, material, units)[1][buffer]
        receipts = []
        for other in depends(plant, buffer):
            many = 0
            while other != material and alone(plant, other, many)[1][buffer] < wanted:
                many += 1
            receipts.append((other, units if other == material else many))
        return tuple(receipts)

    def test_no_loss(self):
        for changed in ((STAGE,), ((STAGE[:1] + (((2, (0, (1,), (1, 2)), 1),),) + STAGE[2:]),)):
            for buffer in (0, 1, 2):
                self.assertEqual(loss((STAGE,), changed, buffer), 0)
                self.assertIsNone(worst_receipts((STAGE,), changed, buffer))

    def test_no_loss_of_other_buffers(self):
        changed = disrupted((STAGE,), (1,), ("yield", 0, 0, 3, 2))
        self.assertEqual([loss((STAGE,), changed, buffer) for buffer in (0, 1)], [0, 0])
        slower = disrupted((STAGE,), (1,), ("slow", 0, 3, 2))
        self.assertEqual(loss((STAGE,), slower, 2), 0)

    def test_a_loss_without_a_bound(self):
        plant = (((PARTS, (1, EACH, 0, False)), ((2, EACH, 1), (3, EACH, 1))) + REST,)
        changed = (((PARTS, (1, EACH, 0, False)), ((2, (0, (), (1, 1, 0)), 1), (3, (0, (0,), (1,)), 1))) + REST,)
        self.assertEqual([loss(plant, changed, buffer) for buffer in range(4)], [0, 0, None, 1])
        self.assertEqual([worst_receipts(plant, changed, buffer) for buffer in range(4)],
                         [None, None, None, ((0, 1), (1, 1))])

    def test_no_bound_by_one_of_the_materials(self):
        plant = (((PARTS, (1, EACH, 0, False)), ((2, EACH, 1),)) + REST,)
        changed = (((PARTS, (1, (0, (3,), (1, 2)), 0, False)), ((2, EACH, 1),)) + REST,)
        self.assertIsNone(loss(plant, changed, 2))
        self.assertIsNone(worst_receipts(plant, changed, 2))
        bounded = (((PARTS, (1, (0, (3,), (1,)), 0, False)), ((2, EACH, 1),)) + REST,)
        self.assertEqual(loss(plant, bounded, 2), 2)
        self.assertEqual(worst_receipts(plant, bounded, 2), ((0, 2), (1, 2)))

    def test_the_least_material_with_the_loss(self):
        plant = (((PARTS, (1, (0, (), (2,)), 0, False)), ((2, EACH, 1),)) + REST,)
        changed = (((PARTS, (1, (0, (2,), (2,)), 1, False)), ((2, (0, (1, 0), (1,)), 1),)) + REST,)
        self.assertEqual(loss(plant, changed, 2), 1)
        self.assertEqual(worst_receipts(plant, changed, 2), ((0, 2), (1, 4)))
        changed = (((PARTS, (1, (0, (2, 5), (2,)), 0, False)), ((2, EACH, 1),)) + REST,)
        self.assertEqual(loss(plant, changed, 2), 2)
        self.assertEqual(worst_receipts(plant, changed, 2), ((0, 3), (1, 6)))

    def test_other_materials_with_enough_in_stock(self):
        plant = (((PARTS, (1, EACH, 4, False)), ((2, (0, (), (2,)), 1),)) + REST,)
        changed = disrupted(plant, (0,), ("extra", 0, 0, 3, 2))
        self.assertEqual(loss(plant, changed, 2), 4)
        self.assertEqual(worst_receipts(plant, changed, 2), ((0, 4), (1, 0)))

    def test_materials_on_which_the_buffer_does_not_depend(self):
        plant = line((EACH, 0, EACH)) + ((((7, EACH, 0, False),), ((8, EACH, 1),)) + REST,)
        changed = disrupted(plant, (0, 0), ("yield", 1, 0, 5, 1))
        self.assertEqual([loss(plant, changed, buffer) for buffer in (0, 1, 7, 8)], [0, 0, 0, 1])
        self.assertEqual(worst_receipts(plant, changed, 8), ((7, 5),))

    def test_worst_receipts_as_receipts(self):
        changed = disrupted((STAGE,), (1,), ("extra", 0, 1, 12, 4))
        receipts = worst_receipts((STAGE,), changed, 2)
        before, after = (dict(completed(plant, receipts)[1])[2] for plant in ((STAGE,), changed))
        self.assertEqual(before - after, loss((STAGE,), changed, 2))


class TooLargeTest(unittest.TestCase):
    def too_large(self, plant, changed, buffer):
        for function in (loss, worst_receipts):
            with self.assertRaises(TooLarge) as caught:
                function(plant, changed, buffer)
            self.assertIs(type(caught.exception), TooLarge)

    def test_curves_of_the_first_plant_and_of_the_changed_one(self):
        fits = line(((0, (), (3, 2, 4, 3)), 0, (0, (), (1, 2, 0, 1, 3))))
        large = line(((0, (), (1, 2, 5, 4)), 0, (0, (4,), (1, 2, 0, 1, 3))))
        self.assertEqual([max(sizes(plant).values()) for plant in (fits, large)], [60, 61])
        self.assertIsNotNone(loss(fits, fits, 1))
        for buffer in (0, 1):
            self.too_large(fits, large, buffer)
            self.too_large(large, fits, buffer)

    def test_a_part_of_the_plant_that_the_buffer_does_not_depend_on(self):
        second = (((7, EACH, 0, False),), ((8, (0, (), (0,) * 60 + (1,)), 1),)) + REST
        plant = line((EACH, 0, EACH)) + (second,)
        self.too_large(plant, plant, 1)
        with self.assertRaises(TooLarge):
            capacities(plant)

    def test_it_is_no_other_error(self):
        self.assertFalse(issubclass(TooLarge, TooMuch))


if __name__ == "__main__":
    unittest.main()

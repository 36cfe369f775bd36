"""Points 6, 61 and 62: right plants, their buffers, materials and products, and what depends on what."""

import unittest

from plantrace.errors import BadPlant
from plantrace.plants import buffers, check_plant, depends, materials, products
from tests.plain import Maker, readers, sources, writers

EACH = (0, (), (1,))


def stage(read, written):
    """A stage that reads and writes these buffers."""
    feeds = tuple((buffer, EACH, 0, False) for buffer in read)
    return feeds, tuple((buffer, EACH, 1) for buffer in written), EACH, EACH, 1, EACH


def plain_wrong(plant):
    """The wrong buffers, by looking at each pair of inputs and outputs."""
    read, written = readers(plant), writers(plant)
    found = set()
    for rows in (read, written):
        found |= {buffer for at, (_, buffer) in enumerate(rows) if buffer in [name for _, name in rows[:at]]}
    return found | {buffer for reader, buffer in read for writer, name in written if buffer == name and reader <= writer}


def plain_depends(plant, buffer):
    """The materials from which a way leads to the buffer."""
    if buffer in sources(plant):
        return {buffer}
    return {
        material for feeds, outputs, *_ in plant if buffer in [output[0] for output in outputs]
        for feed in feeds for material in plain_depends(plant, feed[0])
    }


class ExampleTest(unittest.TestCase):
    def test_examples_of_the_document(self):
        press, paint = stage((0,), (1,)), stage((1, 2), (3,))
        plant = (press, paint)
        self.assertEqual((buffers(plant), materials(plant), products(plant)), ((0, 1, 2, 3), (0, 2), (3,)))
        self.assertEqual(depends(plant, 3), (0, 2))
        self.assertIsNone(check_plant(plant))
        with self.assertRaises(BadPlant) as caught:
            check_plant((paint, press))
        self.assertEqual(caught.exception.buffer, 1)


class BuffersTest(unittest.TestCase):
    def test_all_buffers_in_any_order(self):
        maker = Maker(62)
        for _ in range(200):
            plant = maker.plant()
            read, written = ({buffer for _, buffer in rows} for rows in (readers(plant), writers(plant)))
            self.assertEqual(buffers(plant), tuple(sorted(read | written)))
            self.assertEqual(materials(plant), tuple(sorted(read - written)))
            self.assertEqual(products(plant), tuple(sorted(written - read)))

    def test_numbers_that_do_not_follow_the_flow(self):
        plant = (stage((19, 3), (11, 0)), stage((11, 7), (2,)), stage((2,), (18, 1)))
        self.assertEqual(buffers(plant), (0, 1, 2, 3, 7, 11, 18, 19))
        self.assertEqual(materials(plant), (3, 7, 19))
        self.assertEqual(products(plant), (0, 1, 18))


class DependsTest(unittest.TestCase):
    def test_all_ways(self):
        maker = Maker(620)
        for _ in range(200):
            plant = maker.plant()
            for buffer in buffers(plant):
                self.assertEqual(depends(plant, buffer), tuple(sorted(plain_depends(plant, buffer))))

    def test_a_material_depends_on_itself_alone(self):
        plant = (stage((9, 4), (1,)), stage((1, 3), (0,)))
        self.assertEqual([depends(plant, buffer) for buffer in (9, 4, 3)], [(9,), (4,), (3,)])
        self.assertEqual((depends(plant, 1), depends(plant, 0)), ((4, 9), (3, 4, 9)))

    def test_a_material_on_two_ways(self):
        plant = (stage((5,), (6, 7)), stage((6,), (8,)), stage((8, 7, 2), (3,)))
        self.assertEqual(depends(plant, 3), (2, 5))

    def test_separate_stages(self):
        plant = (stage((5,), (6,)), stage((1,), (2,)))
        self.assertEqual((depends(plant, 6), depends(plant, 2)), ((5,), (1,)))


class WrongTest(unittest.TestCase):
    def wrong(self, plant, buffer):
        with self.assertRaises(BadPlant) as caught:
            check_plant(plant)
        self.assertIs(type(caught.exception), BadPlant)
        self.assertEqual(caught.exception.buffer, buffer)

    def test_two_outputs_write_it(self):
        self.wrong((stage((0,), (5,)), stage((1,), (5,))), 5)
        self.wrong((stage((0,), (5, 6, 5)),), 5)

    def test_two_inputs_read_it(self):
        self.wrong((stage((4,), (5,)), stage((4,), (6,))), 4)
        self.wrong((stage((4, 4), (5,)),), 4)
        self.wrong((stage((0,), (1,)), stage((1,), (2,)), stage((1,), (3,))), 1)

    def test_the_same_stage_reads_and_writes_it(self):
        self.wrong((stage((4, 2), (3, 2)),), 2)

    def test_a_reader_does_not_stand_behind_its_writer(self):
        self.wrong((stage((7,), (8,)), stage((1,), (7,))), 7)
        self.wrong((stage((7,), (8,)), stage((1,), (2,)), stage((3,), (7,))), 7)

    def test_the_least_wrong_buffer(self):
        self.wrong((stage((9, 4, 4), (3, 3)),), 3)
        self.wrong((stage((9, 9), (8,)), stage((1,), (6,)), stage((2,), (6,))), 6)
        self.wrong((stage((5,), (6,)), stage((6,), (5,)), stage((7, 7), (8,))), 5)

    def test_any_plants_by_looking_at_all_pairs(self):
        maker = Maker(621)
        seen = set()
        for _ in range(600):
            plant = tuple(
                stage([maker.number(0, 12) for _ in range(maker.number(1, 2))],
                      [maker.number(0, 12) for _ in range(maker.number(1, 2))])
                for _ in range(maker.number(1, 3))
            )
            wrong = plain_wrong(plant)
            seen.add(bool(wrong))
            if wrong:
                self.wrong(plant, min(wrong))
            else:
                self.assertIsNone(check_plant(plant))
        self.assertEqual(seen, {True, False})

    def test_right_plants(self):
        maker = Maker(622)
        for _ in range(100):
            self.assertIsNone(check_plant(maker.plant()))


if __name__ == "__main__":
    unittest.main()

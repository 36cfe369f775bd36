"""Small plants that several tests use; `STAGE` and `SHOP` are those of the document's examples."""

EACH = (0, (), (1,))
REST = ((0, (), (0,)), (0, (), (1,)), 1, EACH)
PARTS, SCREWS = (0, EACH, 0, False), (1, (0, (), (2,)), 3, False)
STAGE = ((PARTS, SCREWS), ((2, (0, (0,), (1, 2)), 1),)) + REST
BARS, DRILLS = (0, (0, (), (2,)), 0, False), (1, (0, (), (1, 0)), 0, True)
BRACKETS = ((BARS, DRILLS), ((2, EACH, 1),), (0, (), (3,)), (0, (), (2,)), 1, EACH)
BOXES = (((2, (0, (), (2,)), 1, False),), ((3, EACH, 1),), EACH, EACH, 1, (0, (), (1, 0)))
SHOP = (BRACKETS, BOXES)
LOTS = ((1, 5, 10), (0, 2, 3), (0, 3, 8))


def stage(feeds, outputs):
    """A stage with inputs (buffer, consumption, stock), none of them a tool, and outputs (buffer, production)."""
    return (
        tuple((buffer, consumption, stock, False) for buffer, consumption, stock in feeds),
        tuple((buffer, production, 1) for buffer, production in outputs),
    ) + REST


def line(*flows):
    """Stages behind one another, each with one input and one output: (consumption, stock, production)."""
    return tuple(
        stage(((number, consumption, stock),), ((number + 1, production),))
        for number, (consumption, stock, production) in enumerate(flows)
    )

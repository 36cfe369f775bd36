"""Plants: their buffers, which of them are wrong, and what depends on what.

A plant is a tuple of stages (inputs, outputs, cost, duration, parallelism, calendar).
"""

from plantrace.errors import BadPlant

INPUTS = 0
OUTPUTS = 1
COST = 2
DURATION = 3
PARALLELISM = 4
CALENDAR = 5


def check_plant(plant):
    """Raises BadPlant with the least buffer that is wrong, if there is one."""
    readers, writers = places(plant, INPUTS), places(plant, OUTPUTS)
    for buffer in buffers(plant):
        if is_wrong(readers.get(buffer, []), writers.get(buffer, [])):
            raise BadPlant(buffer)


def is_wrong(readers, writers):
    """True if the stages that read a buffer and those that write it do not fit together."""
    if len(readers) > 1 or len(writers) > 1:
        return True
    return len(readers) == 1 and len(writers) == 1 and readers[0] <= writers[0]


def places(plant, side):
    """For each buffer the numbers of the stages whose inputs or outputs it is, once for each."""
    found = {}
    for number, stage in enumerate(plant):
        for row in stage[side]:
            found.setdefault(row[0], []).append(number)
    return found


def reader_places(plant):
    """For each buffer that is read the stage and the input that read it, in a right plant."""
    return row_places(plant, INPUTS)


def writer_places(plant):
    """For each buffer that is written the stage and the output that write it, in a right plant."""
    return row_places(plant, OUTPUTS)


def row_places(plant, side):
    """For each buffer the number of the stage and the place in it of its one input or output."""
    return {
        row[0]: (number, place) for number, stage in enumerate(plant)
        for place, row in enumerate(stage[side])
    }


def buffers(plant):
    """All buffers that are read or written."""
    return tuple(sorted({row[0] for stage in plant for side in (INPUTS, OUTPUTS) for row in stage[side]}))


def materials(plant):
    """The buffers that are read and not written."""
    written = places(plant, OUTPUTS)
    return tuple([buffer for buffer in buffers(plant) if buffer not in written])


def products(plant):
    """The buffers that are written and not read."""
    read = places(plant, INPUTS)
    return tuple([buffer for buffer in buffers(plant) if buffer not in read])


def depends(plant, buffer):
    """The materials on which the buffer depends."""
    return dependence(plant)[buffer]


def dependence(plant):
    """For each buffer the tuple of the materials on which it depends."""
    found = {material: (material,) for material in materials(plant)}
    for stage in plant:
        sources = tuple(sorted({material for feed in stage[INPUTS] for material in found[feed[0]]}))
        for output in stage[OUTPUTS]:
            found[output[0]] = sources
    return found

"""Tables of the ways of some stretches: of all that can be, and of those of one placing."""

from soonerornot.labels import label
from soonerornot.settled import told_placing
from soonerornot.ways import turned_lot, way_of


def label_table(book, stretches):
    """Return the table of all labels of a book and stretches."""
    many = len(stretches)
    rows = [[(0,)] * many for _ in range(many)]
    for s in range(many):
        for t in range(s + 1, many):
            lot = label(book, stretches[s], stretches[t])
            rows[s][t] = lot
            # The label the other way round is this one turned, so it need not be looked for.
            rows[t][s] = turned_lot(lot)
    return tuple([tuple(row) for row in rows])


def scene_of(stretches, placing):
    """Return the scene that a placing which lets all stretches shows."""
    return tuple([tuple([(way_of(placing, s, t),) for t in stretches]) for s in stretches])


def told_scene(book, stretches):
    """Return the told scene, or None if no placing keeps the book."""
    placing = told_placing(book, ())
    return None if placing is None else scene_of(stretches, placing)

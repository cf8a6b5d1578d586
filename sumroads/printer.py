"""Models, tables and sums written as texts."""

from sumroads.errors import InvalidPosition
from sumroads.frames import cell_names, frame_of, row_labels
from sumroads.integers import is_count_to
from sumroads.lots import check_sums, check_table
from sumroads.models import check_model


def model_text(model):
    check_model(model)
    _, names, voids, told = model
    rows = []
    for name, values in names:
        rows.append("name " + name + ": " + " ".join(values))
    for void in voids:
        rows.append("void " + " ".join([values[at] for at, (_, values) in zip(void, names)]))
    for positions in told:
        rows.append(told_text(names, positions))
    return lines_text(rows)


def told_text(names, positions):
    if not positions:
        return "total"
    return "sum " + " ".join([names[at][0] for at in positions])


def lines_text(rows):
    return "".join([row + "\n" for row in rows])


def table_text(model, table):
    check_table(frame_of(model), table)
    rows = []
    for name, count in zip(cell_names(model), table):
        if count > 0:
            rows.append(name + " " + str(count))
    return lines_text(rows)


def sums_text(model, sums):
    check_sums(frame_of(model), sums)
    return lines_text([text + " " + str(number) for text, number in zip(row_labels(model), sums)])


def cell_name(model, position):
    check_model(model)
    names = cell_names(model)
    if not is_count_to(position, len(names) - 1):
        raise InvalidPosition(position)
    return names[position]

"""The judge of histories, which compares the answers of the calls with those of the plain machine."""

from frametally.plain import after_call, answer_of, new_plain

FULL = ("full", None)


def witness_of(row):
    """The number of the access at which the call took place, or None."""
    _, _, _, _, witness, _, _ = row
    return witness


def in_order(rows):
    """The list of the indexes of the rows that took place, in the order of their witnesses."""
    took_place = [at for at, row in enumerate(rows) if witness_of(row) is not None]
    return sorted(took_place, key=lambda at: witness_of(rows[at]))


def plain_at(rows, number):
    """The plain state behind all rows whose witness is at most this number."""
    plain = new_plain()
    for at in in_order(rows):
        _, _, call, _, witness, _, _ = rows[at]
        if witness <= number:
            plain = after_call(plain, call)
    return plain


def is_out_of_time(row):
    """True if the numbers of the accesses of the call contradict each other."""
    _, _, _, _, witness, first, last = row
    if first < 1 or (last is not None and last < first):
        return True
    if witness is None:
        return False
    return witness < first or (last is not None and witness > last)


def misses_witness(row):
    """True if the call has ended with an answer that goes with a witness and has none, or the other way round."""
    _, _, call, answer, witness, _, _ = row
    if answer is None:
        return False
    if witness is None:
        return answer != FULL or call[0] not in ("load", "store", "change")
    return answer == FULL and call[0] not in ("begin", "fork")


def repeated(values):
    """The list of the indexes at which a value stands again that is not None."""
    seen = {}
    found = []
    for at, value in enumerate(values):
        if value is not None and value in seen:
            found.append(at)
        seen[value] = True
    return found


def first_ends(rows):
    """A dict from the processor and the index of each call that has ended to the first access at which it has."""
    ends = {}
    for processor, index, _, _, _, _, last in rows:
        if last is not None:
            place = (processor, index)
            ends[place] = min(last, ends.get(place, last))
    return ends


def follows(row, ends):
    """True if the call is the first one of its processor, or the one before it had ended when it was begun."""
    processor, index, _, _, _, first, _ = row
    if index == 0:
        return True
    before = (processor, index - 1)
    return before in ends and ends[before] < first


def times(rows):
    """The list of the indexes of the rows with the fault "time"."""
    return [at for at, row in enumerate(rows) if is_out_of_time(row)]


def places(rows):
    """The list of the indexes of the rows with the fault "row"."""
    ends = first_ends(rows)
    again = repeated([(row[0], row[1]) for row in rows])
    early = [at for at, row in enumerate(rows) if not follows(row, ends)]
    return sorted([*again, *early])


def missing(rows):
    """The list of the indexes of the rows with the fault "missing"."""
    return [at for at, row in enumerate(rows) if misses_witness(row)]


def twice(rows):
    """The list of the indexes of the rows with the fault "twice"."""
    return repeated([witness_of(row) for row in rows])


def is_same(answer, other):
    """True if the answers are the same. Python takes True and 1 as equal, Frametally does not."""
    return answer == other and isinstance(answer[1], bool) == isinstance(other[1], bool)


def answers(rows):
    """The list of the index of the first row, in the order of the history, with the fault "answer"."""
    plain = new_plain()
    for at in in_order(rows):
        _, _, call, answer, _, _, _ = rows[at]
        if answer is not None and not is_same(answer, answer_of(plain, call)):
            return [at]
        plain = after_call(plain, call)
    return []


def first_fault(rows):
    """The word of the first fault and the index of its row; ("", -1) if there is none."""
    # "answer" comes last: the plain machine is led through rows that took place one behind the other.
    finders = (("time", times), ("row", places), ("missing", missing), ("twice", twice), ("answer", answers))
    for word, finder in finders:
        found = finder(rows)
        if len(found) > 0:
            return (word, found[0])
    return ("", -1)

"""The partner's stair, place by place, and stairs that are sharp or joined."""

from roundstairs.rounds import round_rows, spelled_basis, step_width
from roundstairs.rows import partner_rows, times
from roundstairs.stairs import check_stair


def partner_stair(stair):
    """The stair that spells the partner of the book that a stair spells."""
    check_stair(stair)
    q, sizes, sections = stair
    found = [partner_section(q, sizes, place, section) for place, section in enumerate(sections)]
    return (q, sizes, tuple(found))


def partner_section(q, sizes, place, section):
    """The plain tuple of the section of the partner stair at a place."""
    # The rooms behind count against: a triple fits a step exactly if it meets
    # in 0 the step whose room behind is taken times -1.
    start = sizes[place] + 1
    turned_back = [step[:start] + times(q, -1, step[start:]) for step in section]
    return partner_rows(q, step_width(sizes, place), turned_back)


def dimensions(stair):
    """How many free rounds there are, and how many free ones among those that spell noughts."""
    check_stair(stair)
    count = len(round_rows(stair))
    return (count, count - len(spelled_basis(stair)))


def is_joined(stair):
    """Whether a stair has no more free rounds than its sections and sizes need."""
    count = dimensions(stair)[0]
    _, sizes, sections = stair
    return count == sum([len(section) for section in sections]) - sum(sizes)

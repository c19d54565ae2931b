"""Row strips, and stacks: tuples of shapes, each of which comes by a row strip from the one ahead of it.

A stack is a table or a skew seen letter by letter: the boxes of the k-th strip are those with the letter k.
"""

from wordshapes.boxes import holes_ahead


def strips_on(shape, size):
    """All shapes that come from a shape by a row strip of so many boxes, descending."""
    # No row grows beyond the former end of the row above, so this outer shape leaves room for all of them.
    return strips_within(shape, size, (sum(shape[:1]) + size,) + shape)


def strips_within(shape, size, outer):
    """All shapes inside the outer one that come from a shape by a row strip of so many boxes, descending."""
    parts = holes_ahead(shape, len(outer))
    rooms = [min(wide, above) - part for wide, above, part in zip(outer, outer[:1] + parts, parts)]
    begun = [((), size)]
    for row, part in enumerate(parts):
        below = sum(rooms[row + 1:])
        begun = [
            (longer + (part + more,), left - more)
            for longer, left in begun
            for more in range(min(rooms[row], left), max(0, left - below) - 1, -1)
        ]
    return tuple([tuple([kept for kept in longer if kept]) for longer, left in begun if left == 0])


def stack_counts(inner, outer, amounts):
    """The shapes inside the outer one in which stacks on the inner shape with so many boxes in the strips end.

    Each shape tells how many stacks end in it.
    """
    counts = {inner: 1}
    for size in amounts:
        grown = {}
        for shape, often in counts.items():
            for longer in strips_within(shape, size, outer):
                grown[longer] = grown.get(longer, 0) + often
        counts = grown
    return counts


def stacks(inner, outer, amounts):
    """All stacks from the inner shape to the outer one with so many boxes in the strips."""
    begun = [(inner,)]
    for size in amounts:
        begun = [stack + (longer,) for stack in begun for longer in strips_within(stack[-1], size, outer)]
    return [stack for stack in begun if stack[-1] == outer]


def ballot_stacks(inner, outer, amounts):
    """The stacks from the inner shape to shapes inside the outer one whose letters make ballot words."""
    begun = [(inner,)]
    for size in amounts:
        begun = [
            stack + (longer,)
            for stack in begun
            for longer in strips_within(stack[-1], size, outer)
            if keeps_ballot(stack, longer)
        ]
    return begun


def keeps_ballot(stack, longer):
    """Whether the letters of one strip more keep the word of a stack a ballot word.

    The word is read from its end, so the first row first, each row from the right: a letter of the new
    strip is met ahead of those like the last ones that stand in its own row.
    """
    if len(stack) == 1:
        return True
    before, last = stack[-2:]
    return all([
        sum(longer[:row + 1]) - sum(last[:row + 1]) <= sum(last[:row]) - sum(before[:row])
        for row in range(len(longer))
    ])


def rows_of_stack(stack):
    """The rows of letters behind the first shape of a stack."""
    wide = [holes_ahead(shape, len(stack[-1])) for shape in stack]
    return tuple([
        tuple([
            letter
            for letter in range(1, len(stack))
            for _ in range(wide[letter][row] - wide[letter - 1][row])
        ])
        for row in range(len(stack[-1]))
    ])

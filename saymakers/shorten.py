"""Cutting proofs without joins short by leaving out."""


def shortened(bench, part, left, right, kept):
    """A proof without joins and thinnings whose end lies within the sheet, as the part's end does.

    Walking up with the whole sheet, a rule is left out where nothing that a premise adds is used.
    """
    if left & right:
        return bench.start_part(bench.sayings[(left & right).bit_length() - 1])
    key = (part.number, left, right)
    if key not in kept:
        kept[key] = _worked(bench, part, left, right, kept)
    return kept[key]


def _worked(bench, part, left, right, kept):
    """What the part, a thinning or a rule, comes to in the sheet."""
    if part.word == "thin":
        return shortened(bench, part.kids[0], left, right, kept)
    kids = []
    for kid, (more_left, more_right) in zip(part.kids, part.premises):
        short = shortened(bench, kid, left | more_left, right | more_right, kept)
        if lies_in(short.left, short.right, left, right):
            return short
        kids.append(short)
    return bench.rule_like(part, tuple(kids))


def lies_in(left, right, great_left, great_right):
    """Whether the one sheet's bits stand in the other's."""
    return not left & ~great_left and not right & ~great_right

"""Several boxes in their order: narrowed, tidied, brought to four at most."""

from driftboxes.boxes import amount, has_places, is_in, less, overlap, round_both

MOST_BOXES = 4


def without(boxes, takens):
    """The boxes less each of the others, one behind the other."""
    left = boxes
    for taken in takens:
        parts = []
        for box in left:
            parts.extend(less(box, taken))
        left = parts
    return left


def narrowed(boxes, sighting):
    """Of each box what is in the sighting, too."""
    parts = [overlap(box, sighting) for box in boxes]
    return [part for part in parts if has_places(part)]


def is_in_any(box, others):
    for other in others:
        if is_in(box, other):
            return True
    return False


def tidy(boxes):
    """Without those that are in one kept before them, or in any behind them: of like ones the last stays."""
    kept = []
    for place, box in enumerate(boxes):
        if not is_in_any(box, kept) and not is_in_any(box, boxes[place + 1:]):
            kept.append(box)
    return kept


def round_all(boxes):
    """The least box in which all are; there is one box at least."""
    whole = boxes[0]
    for box in boxes:
        whole = round_both(whole, box)
    return whole


def growth(one, other):
    """By how much the box round both is greater than both together; below 0 if they lie over one another."""
    return amount(round_both(one, other)) - amount(one) - amount(other)


def pairs_with(box, mark, kept):
    return [(growth(other, box), place, mark) for place, other in kept.items()]


def at_most_four(boxes):
    """The boxes tidied, and as long as there are too many, the pair that grows least made one.

    Each box has a mark, greater than those of all boxes ahead of it. Marks stay when boxes are left out, so the
    least pair is the least tuple of growth, lesser mark, greater mark, and no growth is reckoned twice.
    """
    kept = {}
    pairs = []
    for mark, box in enumerate(tidy(boxes)):
        pairs.extend(pairs_with(box, mark, kept))
        kept[mark] = box
    mark = len(kept)
    while len(kept) > MOST_BOXES:
        least = min(pairs)
        whole = round_both(kept[least[1]], kept[least[2]])
        # The others were tidy, so none of them holds the whole: only those within it are left out, the two too.
        kept = dict([(place, box) for place, box in kept.items() if not is_in(box, whole)])
        pairs = [pair for pair in pairs if pair[1] in kept and pair[2] in kept]
        pairs.extend(pairs_with(whole, mark, kept))
        kept[mark] = whole
        mark += 1
    return list(kept.values())

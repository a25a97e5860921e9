"""What differs between two trees."""

from versiontables.trees import entries_beneath, open_piece, read_pieces


def compare(chunks, first, second):
    """Return the list of the triples (key, first rest, second rest) that differ."""
    if first == second:
        return []
    found = []
    # The pieces that are still to be compared, the next one at the end.
    left = read_pieces(chunks, first)[::-1]
    right = read_pieces(chunks, second)[::-1]
    while left and right:
        left_piece = left.pop()
        right_piece = right.pop()
        if left_piece == right_piece:
            continue
        if left_piece[0] > 0 or right_piece[0] > 0:
            highest = max(left_piece[0], right_piece[0])
            left.extend(_opened(chunks, left_piece, highest))
            right.extend(_opened(chunks, right_piece, highest))
            continue
        key, left_rest, right_rest = _next_difference(left_piece[1], right_piece[1])
        found.append((key, left_rest, right_rest))
        if left_rest is None:
            left.append(left_piece)
        if right_rest is None:
            right.append(right_piece)
    found.extend([(key, rest, None) for key, rest in entries_beneath(chunks, left[::-1])])
    found.extend([(key, None, rest) for key, rest in entries_beneath(chunks, right[::-1])])
    return found


def _opened(chunks, piece, level):
    """Return the pieces beneath a piece of that level, the last one first; another piece stays whole."""
    if piece[0] < level:
        return [piece]
    return open_piece(chunks, piece)[::-1]


def _next_difference(left, right):
    """Return what two different entries tell of the lesser one of their keys."""
    if left[0] < right[0]:
        return left[0], left[1], None
    if right[0] < left[0]:
        return right[0], None, right[1]
    return left[0], left[1], right[1]

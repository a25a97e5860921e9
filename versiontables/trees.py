"""Trees of chunks, which hold entries in ascending order of their keys.

A piece is a pair `(level, entry)` of an entry of a tree and its level. It stands
for all entries of level 0 beneath it, so a list of pieces can tell of a whole
tree although most of its chunks were never read.
"""

from versiontables.codec import decode, encode
from versiontables.values import digest

MOST_ENTRIES = 8


def ends_chunk(level, key, count):
    """Return True if a chunk of the level ends behind entry number `count`, which has the key."""
    if count == MOST_ENTRIES:
        return True
    if level > 0 and count < 2:
        return False
    return digest(encode((level, key))) % 4 == 0


def build(chunks, entries):
    """Put the chunks of the tree with these entries; return its address."""
    return _join(chunks, [(0, entry) for entry in entries])


def read(chunks, root):
    """Return the list of the entries of the tree."""
    return entries_beneath(chunks, read_pieces(chunks, root))


def size(chunks, root):
    """Return the number of entries of the tree."""
    level, entries = _read_chunk(chunks, root)
    return _count_entries(level, entries)


def height(chunks, root):
    """Return the number of levels of the tree."""
    level, _ = _read_chunk(chunks, root)
    return level + 1


def find(chunks, root, key):
    """Return the rest of the entry with the key, or None."""
    level, entries = _read_chunk(chunks, root)
    while level > 0:
        candidates = [entry[1] for entry in entries if key <= entry[0]]
        if not candidates:
            return None
        level, entries = _read_chunk(chunks, candidates[0])
    for entry_key, rest in entries:
        if entry_key == key:
            return rest
    return None


def edit(chunks, root, changes):
    """Put the chunks of the tree with the changes; return its address."""
    if not changes:
        return root
    return _join(chunks, _changed_pieces(chunks, root, changes))


def reachable(chunks, root):
    """Return the list of the addresses of all chunks of the tree, in ascending order."""
    addresses = [root]
    unread = [root]
    while unread:
        level, entries = _read_chunk(chunks, unread.pop())
        if level > 0:
            below = [entry[1] for entry in entries]
            addresses.extend(below)
            # The chunks of level 0 lead to no others.
            if level > 1:
                unread.extend(below)
    return sorted(addresses)


def read_pieces(chunks, address):
    """Return the list of the pieces of one chunk."""
    level, entries = _read_chunk(chunks, address)
    return [(level, entry) for entry in entries]


def open_piece(chunks, piece):
    """Return the list of the pieces of the chunk for which a piece above level 0 stands."""
    return read_pieces(chunks, _chunk_address(piece))


def entries_beneath(chunks, pieces):
    """Return the list of the entries of level 0 beneath the pieces."""
    entries = []
    waiting = pieces[::-1]
    while waiting:
        piece = waiting.pop()
        level, entry = piece
        if level == 0:
            entries.append(entry)
        else:
            waiting.extend(open_piece(chunks, piece)[::-1])
    return entries


def _chunk_address(piece):
    return piece[1][1]


def _read_chunk(chunks, address):
    chunk = decode(chunks.get(address))
    if chunk[0] == "rows":
        return 0, chunk[1]
    return chunk[1], chunk[2]


def _count_entries(level, entries):
    if level == 0:
        return len(entries)
    return sum([entry[2] for entry in entries])


def _put_chunk(chunks, level, entries):
    """Put a chunk with these entries; return the piece of the level above for it."""
    if level == 0:
        text = encode(("rows", tuple(entries)))
    else:
        text = encode(("node", level, tuple(entries)))
    return level + 1, (entries[-1][0], chunks.put(text), _count_entries(level, entries))


def _changed_pieces(chunks, address, changes):
    """Return the pieces beneath a chunk with the changes, which are not empty."""
    level, entries = _read_chunk(chunks, address)
    if level == 0:
        return [(0, entry) for entry in _changed_entries(entries, changes)]
    pieces = []
    for entry in entries[:-1]:
        near = [change for change in changes if change[0] <= entry[0]]
        changes = changes[len(near):]
        pieces.extend(_changed_piece(chunks, level, entry, near))
    # A key behind all others belongs to the last chunk: it may have ended only because it is the last.
    pieces.extend(_changed_piece(chunks, level, entries[-1], changes))
    return pieces


def _changed_piece(chunks, level, entry, changes):
    if not changes:
        return [(level, entry)]
    return _changed_pieces(chunks, entry[1], changes)


def _changed_entries(entries, changes):
    rests = {key: rest for key, rest in entries}
    for key, rest in changes:
        rests[key] = rest
    return [(key, rests[key]) for key in sorted(rests) if rests[key] is not None]


def _join(chunks, pieces):
    """Put the chunks of the tree with these pieces; return its address."""
    if not pieces:
        return chunks.put(encode(("rows", ())))
    # A chunk that is left alone may lie beneath levels that the tree does not need any more.
    while len(pieces) == 1 and pieces[0][0] > 0:
        pieces = open_piece(chunks, pieces[0])
    level = 0
    pieces = _pack_level(chunks, level, pieces)
    while len(pieces) > 1:
        level += 1
        pieces = _pack_level(chunks, level, pieces)
    return _chunk_address(pieces[0])


def _pack_level(chunks, level, pieces):
    """Put the pieces of the level into chunks; return the pieces of the levels above it."""
    waiting = pieces[::-1]
    packed = []
    part = []
    while waiting:
        piece = waiting.pop()
        piece_level, entry = piece
        if piece_level == level:
            part.append(entry)
            if ends_chunk(level, entry[0], len(part)):
                packed.append(_put_chunk(chunks, level, part))
                part = []
        elif part:
            # A chunk is begun, so this piece does not stay as it is.
            waiting.extend(open_piece(chunks, piece)[::-1])
        else:
            packed.append(piece)
    if part:
        packed.append(_put_chunk(chunks, level, part))
    return packed

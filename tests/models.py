"""A slow and literal reading of points [11] to [17], and books to try it with."""

from leastimage.books import wide_book
from leastimage.objects import Archive, Object
from leastimage.pieces import Piece

LONG = {"name": 2, "jump": 3, "ifzero": 5, "call": 3}
REFERENCES = ("name", "jump", "ifzero", "call", "address")


def all_pieces(book):
    """The tuples (key, object, piece) of all pieces, by ranks."""
    found = []
    for unit in book.units():
        owners = [("", unit)]
        if isinstance(unit, Archive):
            owners = [(member.name, member) for member in unit.members()]
        for member, owner in owners:
            found.extend([((unit.name, member, piece.name), owner, piece) for piece in owner.pieces()])
    return found


def answer(book, name):
    """The pair (key, piece) of the answer of a name, or None."""
    named = [(key, piece) for key, _, piece in all_pieces(book) if piece.name == name]
    strong = [pair for pair in named if pair[1].scope in ("export", "open")]
    in_objects = [pair for pair in strong if pair[0][1] == ""]
    weak = [pair for pair in named if pair[1].scope == "weak"]
    return (in_objects + strong + weak + [None])[0]


def target(book, key, owner, name):
    """The target of a name that a piece of an object refers to."""
    if any(piece.name == name and piece.scope == "local" for piece in owner.pieces()):
        return ("piece", key[0], key[1], name)
    found = answer(book, name)
    if name in owner.outside() or (found is not None and found[1].scope == "open"):
        return ("stub", name)
    if found is None:
        return ("none", name)
    return ("piece", *found[0])


def references(book):
    """The tuples (key, piece, index, row, target, key behind or None) of all references."""
    found = []
    parts = {key: piece.part for key, _, piece in all_pieces(book)}
    for key, owner, piece in all_pieces(book):
        for at, row in enumerate(piece.rows()):
            if row[0] in REFERENCES:
                told = target(book, key, owner, row[-1])
                behind = told[1:] if told[0] == "piece" else None
                if told[0] == "stub" and answer(book, told[1]) is not None:
                    key_behind = answer(book, told[1])[0]
                    behind = key_behind if parts[key_behind] == "code" else None
                found.append((key, piece, at, row, told, behind))
    return found


def known(book):
    names = [row[-1] for _, _, _, row, _, _ in references(book)]
    names += [piece.name for _, _, piece in all_pieces(book) if piece.scope != "local"]
    for unit in book.units():
        for owner in unit.members() if isinstance(unit, Archive) else [unit]:
            names += owner.outside()
    return sorted(set(names))


def all_needs(book):
    """All needs of a book, ascending."""
    found = [("live", *key) for key, _, _ in all_pieces(book)]
    archives = [unit for unit in book.units() if isinstance(unit, Archive)]
    found += [("drawn", unit.name, member.name) for unit in archives for member in unit.members()]
    found += [("stub", name) for name in known(book)]
    found += [("long", *key, at) for key, _, at, row, _, _ in references(book) if row[0] in LONG]
    return sorted(found)


def size(row, is_long):
    if row[0] == "room":
        return row[1]
    if row[0] == "put":
        return 2
    return LONG[row[0]] if is_long and row[0] in LONG else 1


def code(book, needs):
    """The list of the tuples (point, alignment, cells) of the code, in order."""
    found = [(need, 1, 4) for need in sorted(set(needs)) if need[0] == "stub"]
    for key, _, piece in all_pieces(book):
        if piece.part == "code" and ("live", *key) in needs:
            for at, row in enumerate(piece.rows()):
                place = (*key, at)
                alignment = piece.alignment if at == 0 else 1
                found.append((place, alignment, size(row, ("long", *place) in needs)))
    return found


def way(book, needs, one, other, start):
    """The stretch from a start between two points, in either order."""
    told = code(book, needs)
    order = [point for point, _, _ in told]
    low, high = sorted([order.index(one), order.index(other)])
    at = start
    for behind in range(low + 1, high + 1):
        at += told[behind - 1][2]
        while at % told[behind][1] != 0:
            at += 1
    return at - start


def stretch(book, needs, place, start):
    """The stretch of a reference, None if it has none."""
    order = [point for point, _, _ in code(book, needs)]
    for key, _, at, row, told, _ in references(book):
        if (*key, at) == place and row[0] in LONG and place in order:
            point = (*told[1:], 0) if told[0] == "piece" else told
            return way(book, needs, place, point, start) if point in order else None
    return None


def given(book, roots, reach, needs):
    """All needs that rules give from needs of a set, also those in it."""
    found = set()
    parts = {key: piece.part for key, _, piece in all_pieces(book)}
    for root in roots:
        if answer(book, root) is not None:
            found.add(("live", *answer(book, root)[0]))
    for key, _, piece in all_pieces(book):
        if piece.keep and (key[1] == "" or ("drawn", key[0], key[1]) in needs):
            found.add(("live", *key))
        if ("live", *key) in needs and key[1] != "":
            found.add(("drawn", key[0], key[1]))
    for key, _, at, row, told, behind in references(book):
        if ("live", *key) in needs:
            if behind is not None:
                found.add(("live", *behind))
            if told[0] == "stub":
                found.add(told)
            if row[0] == "name" and told[0] == "piece" and parts[told[1:]] == "data":
                found.add(("long", *key, at))
            for start in range(16):
                far = stretch(book, needs, (*key, at), start)
                if far is not None and far > reach:
                    found.add(("long", *key, at))
    return found


def least(book, roots, reach):
    """The needs of a book, ascending."""
    needs = set()
    while not given(book, roots, reach, needs) <= needs:
        needs |= given(book, roots, reach, needs)
    return sorted(needs)


def is_right(book, roots, reach, step):
    """Whether a step of the right kinds of values is right, read as point [18] tells it."""
    need, rule, because, at = step
    live = [other for other in because if other[0] == "live"]
    if list(because) != sorted(set(because)) or need in because:
        return False
    pieces = {key: piece for key, _, piece in all_pieces(book)}
    if rule == "root":
        answers = [answer(book, root) for root in roots]
        return need in [("live", *told[0]) for told in answers if told] and because == () and at is None
    if rule == "keep":
        if need[0] != "live" or not pieces[need[1:]].keep or at is not None:
            return False
        return because == (() if need[2] == "" else (("drawn", need[1], need[2]),))
    if rule == "drawn":
        fits = len(live) == len(because) == 1 and need == ("drawn", live[0][1], live[0][2])
        return fits and at is None
    for key, _, index, row, told, behind in references(book):
        if rule in ("reference", "stub") and because == (("live", *key),) and at == index:
            if rule == "stub":
                return need == told
            return behind is not None and need == ("live", *behind)
        if need == ("long", *key, index) and rule == "data":
            to_data = told[0] == "piece" and pieces[told[1:]].part == "data"
            return row[0] == "name" and to_data and because == (("live", *key),) and at is None
        if need == ("long", *key, index) and rule == "far":
            if at not in range(16) or "drawn" in [other[0] for other in because]:
                return False
            far = stretch(book, because, (*key, index), at)
            return far is not None and far > reach
    return False


def random_row(random, part, names):
    name = random.choice(names)
    if part == "data":
        return random.choice([("word", 7), ("address", name), ("room", random.randint(1, 5))])
    return random.choice(
        [
            ("put", "r0", 1),
            ("out", "r0"),
            ("room", random.randint(1, 20)),
            ("name", "r1", name),
            ("jump", name),
            ("ifzero", "r2", name),
            ("call", name),
            ("call", name),
        ]
    )


def random_piece(random, name, names, scopes):
    part = random.choice(["code", "code", "code", "data"])
    rows = [random_row(random, part, names) for _ in range(random.randint(0, 5))]
    if part == "code":
        rows.append(random.choice([("halt",), ("back",), ("jump", random.choice(names))]))
    scope = random.choice([scope for scope in scopes if part == "code" or scope != "open"])
    alignment = random.choice([1, 1, 2, 4, 8, 16])
    return Piece(name, part, rows, alignment=alignment, scope=scope, keep=random.random() < 0.15)


def random_object(random, name, names, taken):
    """An object whose strong pieces have other names than those that are taken."""
    own = random.sample(names, random.randint(0, min(5, len(names))))
    pieces = []
    for piece in own:
        scopes = ["local", "weak"] if piece in taken else ["local", "weak", "export", "export", "open"]
        pieces.append(random_piece(random, piece, names, scopes))
    others = [other for other in names if other not in own]
    outside = random.sample(others, random.randint(0, min(2, len(others))))
    return Object(name, *pieces, outside=outside)


def random_book(random, names="abcdef", most=4):
    """A small book with many references, archives and answers."""
    units = []
    taken = []
    names = list(names)
    for name in random.sample(names, random.randint(1, min(most, len(names)))):
        if random.random() < 0.4:
            members = random.sample(names, random.randint(0, min(2, len(names))))
            units.append(Archive(name, *[random_object(random, member, names, []) for member in members]))
        else:
            units.append(random_object(random, name, names, taken))
            taken += [piece.name for piece in units[-1].pieces() if piece.is_strong()]
    book = wide_book(units)
    return book if len(book.ranked()) <= 24 else random_book(random, names, most)


def random_roots(random, book):
    """Some roots, of which most books have an answer."""
    names = [name for name in book.known() if answer(book, name) is not None]
    return random.sample(names, random.randint(1, min(3, len(names)))) if names else ["zzz"]


def is_larger(big, book):
    """Whether big is larger than book, read as point [19] tells it."""
    rest = big.units()
    for unit in book.units():
        while rest and not rest[0] == unit:
            rest.pop(0)
        if not rest:
            return False
        rest.pop(0)
    for name in known(book):
        told = answer(book, name)
        if told is not None and answer(big, name)[0] != told[0]:
            return False
    return True


def random_larger(random, book, names):
    """A book with some units more, which is larger in most cases."""
    units = book.units()
    strong = [piece.name for unit in units if isinstance(unit, Object) for piece in unit.pieces() if piece.is_strong()]
    titles = [title for title in "klmnop" if title not in book]
    for title in random.sample(titles, random.randint(0, 3)):
        if random.random() < 0.4:
            members = random.sample(names, random.randint(0, min(2, len(names))))
            unit = Archive(title, *[random_object(random, member, names, []) for member in members])
        else:
            unit = random_object(random, title, names, strong)
            strong += [piece.name for piece in unit.pieces() if piece.is_strong()]
        units.insert(random.randint(0, len(units)), unit)
    return wide_book(units)


def offsets(book, needs, page):
    """The dicts of the offsets of stubs, slots, pieces and rows, with the three lengths."""
    stubs, slots, pieces, rows = {}, {}, {}, {}
    at = 0
    for point, alignment, cells in code(book, needs):
        while at % alignment != 0:
            at += 1
        if point[0] == "stub" and len(point) == 2:
            stubs[point[1]] = at
        else:
            rows[point] = at
            pieces.setdefault(point[:3], at)
        at += cells
    code_length = at
    while at % page != 0:
        at += 1
    data_offset = at
    for name in stubs:
        slots[name] = at
        at += 1
    end = at
    for key, _, piece in all_pieces(book):
        if piece.part == "data" and ("live", *key) in needs:
            while at % piece.alignment != 0:
                at += 1
            pieces[key] = at
            for index, row in enumerate(piece.rows()):
                rows[(*key, index)] = at
                at += size(row, False)
                end = at
    return stubs, slots, pieces, rows, (code_length, data_offset, end)

"""What several tests need: odd things, libraries, and a plain model of edits."""

import random
from itertools import product

from everypiece.desks import Desk
from everypiece.disks import Disk
from everypiece.errors import BadEdits, NoWord, PieceError
from everypiece.growers import Grower
from everypiece.libraries import Library
from everypiece.saves import Vault
from everypiece.shelves import Shelf
from everypiece.webs import Web

WORDS = ("put", "cut", "change", "come", "go", "split", "join", "move")


def nested(deep, kind):
    """A list, tuple or dict nested so deep."""
    thing = kind()
    for _ in range(deep - 1):
        thing = {0: thing} if kind is dict else kind([thing])
    return thing


def odd_things():
    """New things of many kinds, none of which is equal to a place or an edit of any library."""
    return [
        None, True, False, Ellipsis, NotImplemented,
        0, 1, -1, 7, 10 ** 20 - 1, 1 - 10 ** 20,
        "", "a", " ", "~", "\n", "a\n", "put", "go", "a" * 20000,
        b"", b"a", bytearray(b"a"), memoryview(b"a"),
        (), (None,), ("a",), (True, True), (0,), (0, 0, 0), ("0", "0"), (-1, 0), (0, -1), ("go", ()),
        [], [0, 0], ["go"], ["put", 0, 0, "a"], {}, {"a": 1}, {0: [0]}, range(2), slice(0, 2),
        int, str, tuple, type(None), len, print, lambda: 0, object(), property(), iter([0, 0]), zip([0], [0]),
        (0 for _ in ()), {}.items(), {}.keys(), Exception("a"), NoWord(), BadEdits(0), NoWord, Library,
        Library(()), Library(("ab", "")), (Library(("a",)), 0), (0, Library(("a",))), [Library(())],
        Shelf(Library(("ab",))), (Shelf(Library(())), 0), Shelf, Web(()), Web((("a", 1, (0, 0), (), ()),)), Web,
        (Web(()), 0), (0, Web(())), Grower(), (Grower(),), Grower, ("a", 1, (0, 0), (), ()), (("a", Web(())),),
        Disk(), (Disk(),), Disk, Vault(Disk()), (Vault(Disk()),), [Vault(Disk())], Vault, Desk(), (Desk(), 0), Desk,
        nested(40, tuple), nested(40, list), nested(40, dict), tuple([0] * 19999), list(range(19999)),
        (nested(39, list), 0), (0, nested(39, tuple)), (10 ** 19, 0), (0, 10 ** 19),
    ]


def libraries():
    """Libraries of many forms, empty and full ones among them."""
    return [Library(texts) for texts in (
        (), ("",), ("a",), ("ab",), ("abab",), ("", ""), ("a", ""), ("", "ab"), ("ab", "ab"), ("abc", "de", "f"),
        ("aa", "", "aab"), ("", "", ""), ("ab", "", "c", "", "dd", "", "e", ""), ("", "", "", "", "", "", "", "xyz"),
        ("a", "b", "c", "d", "e", "f", "g"), (" ~", "~ ", "[?]\\"),
        ("ab" * 1000,), ("a" * 1999,), ("a" * 2000, ""), ("ab" * 500, "ba" * 500),
        ("c" * 250,) * 8, ("d" * 1993, "", "e", "", "fgh", "", "ij", "k"), ("",) * 8,
    )]


def small_libraries():
    """Those of at most 3 signs a text and 3 texts, so that all edits of them can be tried."""
    return [library for library in libraries() if len(library.texts) <= 3 and max(map(len, library.texts), default=0) < 5]


def random_text(chance, most):
    """A text of at most so many signs: of few signs or of many, with periods, stretches of one sign, or none."""
    long = chance.choice([chance.randint(0, min(most, 12)), chance.randint(0, most)])
    lot = chance.sample([chr(number) for number in range(32, 127)], chance.choice([1, 2, 2, 3, 5, 95]))
    kind = chance.randrange(4)
    if kind == 0:
        return "".join(chance.choice(lot) for _ in range(long))
    if kind == 1:
        word = "".join(chance.choice(lot) for _ in range(chance.randint(1, 9)))
        return (word * (long // len(word) + 1))[:long]
    if kind == 2:
        return "".join(chance.choice(lot) * chance.randint(1, 4) for _ in range(long))[:long]
    one, other = lot[0], lot[0] + lot[-1]
    while len(other) < long:
        one, other = other, other + one
    return other[:long]


def random_library(chance, most):
    """A library of at most 8 texts, of at most so many signs in all."""
    texts = [random_text(chance, most) for _ in range(chance.choice([0, 1, 1, 2, 3, 5, 8]))]
    room = most
    for number, text in enumerate(texts):
        texts[number] = text[:room]
        room -= len(texts[number])
    return Library(tuple(texts))


def random_edit(chance, library):
    """An edit of any kind that a library has."""
    texts = library.texts
    while True:
        word = chance.choice(WORDS)
        text, other = (chance.randrange(len(texts) or 1) for _ in range(2))
        signs = texts[text] if texts else ""
        at, place = (chance.randint(0, len(signs)) for _ in range(2))
        many = chance.choice([1, 1, 2, max(1, len(signs) // 2), max(1, len(signs) - at)])
        new = chance.choice([signs[place:place + 3], random_text(chance, 9), "a", "ab"])
        parts = {"put": (text, at, new), "cut": (text, at, many), "change": (text, at, new), "come": (new,), "go": (),
                 "split": (text, at), "join": (text, other), "move": (text, at, many, other, place)}
        edit = (word,) + parts[word]
        if (new or word not in ("put", "change")) and plain_edit(library, edit) is not None:
            return edit


def random_part(chance, signs):
    """A part of a pattern that is no gap, of these signs."""
    lot = sorted(set(chance.choice(signs) for _ in range(chance.choice([1, 2, 3, 40]))))[:20]
    return chance.choice([("sign", chance.choice(signs)), ("any",), ("lot", "".join(lot))])


def random_pattern(chance, signs, many, gaps=(0, 0, 1, 2, 10, 20)):
    """A pattern of so many parts, of these signs, with gaps of such bounds, if any."""
    parts = []
    while len(parts) < many:
        last = len(parts) in (0, many - 1) or parts[-1][0] == "gap" or not gaps
        if last or chance.random() < 0.6:
            parts.append(random_part(chance, signs))
        else:
            parts.append(("gap",) + tuple(sorted(chance.choice(gaps) for _ in range(2))))
    return tuple(parts)


def place_list(library):
    return [(text, at) for text, signs in enumerate(library.texts) for at in range(len(signs))]


def signs_from(library, place):
    """The ending at a place."""
    return library.texts[place[0]][place[1]:]


def pieces_of(library):
    """All unlike pieces, ascending, taken one by one."""
    return sorted({text[at:behind] for text in library.texts for at in range(len(text))
                   for behind in range(at + 1, len(text) + 1)})


def places_of(library, word):
    """The ascending list of the places at which a word stands."""
    return [(text, at) for text, signs in enumerate(library.texts) for at in range(len(signs))
            if signs.startswith(word, at)]


def neighbours(library, word, places):
    """The lists of the signs ahead of these places of a word, and behind it; "" where there is none."""
    texts = library.texts
    return ([texts[text][at - 1] if at else "" for text, at in places],
            [texts[text][at + len(word):at + len(word) + 1] for text, at in places])


def plain_grown(library, word, ahead_first=True):
    """A piece, grown sign by sign as long as one and the same one stands at all places."""
    places = places_of(library, word)
    while True:
        aheads, behinds = neighbours(library, word, places)
        can = [side for side, signs in (("ahead", aheads), ("behind", behinds)) if signs[0] and len(set(signs)) == 1]
        if not can:
            return word
        if ("ahead" in can) if ahead_first else ("behind" not in can):
            word, places = aheads[0] + word, [(text, at - 1) for text, at in places]
        else:
            word = word + behinds[0]


def by_length(words):
    """Words in the order of classes."""
    return sorted(words, key=lambda word: (len(word), word))


def plain_classes(library):
    """A dict from the longest piece of each class, in their order, to the ascending list of its pieces."""
    found = {}
    for piece in pieces_of(library):
        found.setdefault(plain_grown(library, piece), []).append(piece)
    return {longest: found[longest] for longest in by_length(found)}


def tiny_libraries():
    """All of one text, and of two, with few signs a and b, and some drawn ones."""
    chance = random.Random(5)
    words = [""] + ["".join(signs) for many in range(1, 7) for signs in product("ab", repeat=many)]
    found = [()] + [(word,) for word in words if len(word) < 6]
    found += [(one, other) for one in words for other in words if len(one + other) < 4]
    found += [tuple(chance.choice(words) for _ in range(chance.choice([2, 3, 4, 8]))) for _ in range(60)]
    found += [("ab" * 6,), ("a" * 12,), ("abcabcab",), ("abaababaabaab",), ("abcacbcab", "cab"), ("xyx", "xyx", "y")]
    return [Library(texts) for texts in found] + [random_library(chance, 14) for _ in range(90)]


def plain_order(library):
    """All places in the order of their endings, as Python sorts them."""
    return sorted(place_list(library), key=lambda place: (signs_from(library, place), place))


def plain_common(one, other):
    """How many signs two strings have in common at the front."""
    unlike = (number for number, pair in enumerate(zip(one, other)) if pair[0] != pair[1])
    return next(unlike, min(len(one), len(other)))


def quick_common(one, other):
    """The same, by doubling: for the endings of full libraries."""
    many, step = 0, 1
    while step:
        if step <= min(len(one), len(other)) - many and one[many:many + step] == other[many:many + step]:
            many, step = many + step, step * 2
        else:
            step //= 2
    return many


def plain_lengths(library):
    """The common lengths of neighbours in the order, 0 for the first."""
    order = plain_order(library)
    return [0][:len(order)] + [quick_common(signs_from(library, one), signs_from(library, other))
                               for one, other in zip(order, order[1:])]


def plain_span(library, word):
    """The numbers, in Python's own order, of the endings that begin with a word."""
    order = [signs_from(library, place) for place in plain_order(library)]
    found = [number for number, signs in enumerate(order) if signs.startswith(word)]
    less = len([signs for signs in order if signs < word])
    return (found[0], found[-1] + 1) if found else (less, less)


def plain_taken(library, edit):
    """The library behind an edit, and a dict of where each sign is taken, by the plain model."""
    rows = plain_edit(library, edit)
    taken = {label[1]: (text, at) for text, row in enumerate(rows) for at, label in enumerate(row)
             if label[1] is not None}
    return Library(texts_of(rows)), taken


def labelled(library):
    """Lists of pairs (sign, place), so that each sign can be told from all others."""
    return [[(sign, (text, at)) for at, sign in enumerate(signs)] for text, signs in enumerate(library.texts)]


def new_signs(signs):
    return [(sign, None) for sign in signs]


def plain_edit(library, edit):
    """The labelled lists behind an edit of the right form, None if the library has no such edit.

    Every sign is handled by itself, by list.insert and list.pop, so that nothing
    here is made as the package makes it.
    """
    rows = labelled(library)
    word, parts = edit[0], edit[1:]
    try:
        if word == "put":
            insert_all(rows, parts[0], parts[1], new_signs(parts[2]))
        elif word == "cut":
            take_all(rows, *parts)
        elif word == "change":
            take_all(rows, parts[0], parts[1], len(parts[2]))
            insert_all(rows, parts[0], parts[1], new_signs(parts[2]))
        elif word == "come":
            rows.append(new_signs(parts[0]))
        elif word == "go":
            if rows.pop():
                return None
        elif word == "split":
            taken = take_all(rows, parts[0], parts[1], len(rows[parts[0]]) - parts[1])
            rows.append(taken)
        elif word == "join":
            if parts[0] == parts[1]:
                return None
            taken = take_all(rows, parts[1], 0, len(rows[parts[1]]))
            insert_all(rows, parts[0], len(rows[parts[0]]), taken)
        elif word == "move":
            insert_all(rows, parts[3], parts[4], take_all(rows, *parts[:3]))
    except IndexError:
        return None
    return rows if len(rows) <= 8 and sum(map(len, rows)) <= 2000 else None


def take_all(rows, text, at, many):
    if many < 0:
        raise IndexError
    return [rows[text].pop(at) for _ in range(many)]


def insert_all(rows, text, at, signs):
    if at > len(rows[text]):
        raise IndexError
    for sign in reversed(signs):
        rows[text].insert(at, sign)


def texts_of(rows):
    return tuple("".join(sign for sign, _ in row) for row in rows)


def well_formed(numbers, words):
    """All tuples that have the form of an edit, with these numbers and words as parts."""
    many = [number for number in numbers if number > 0]
    kinds = {
        "put": (numbers, numbers, words), "cut": (numbers, numbers, many), "change": (numbers, numbers, words),
        "come": (list(words) + [""],), "go": (), "split": (numbers, numbers), "join": (numbers, numbers),
        "move": (numbers, numbers, many, numbers, numbers),
    }
    return [(word,) + parts for word in WORDS for parts in product(*kinds[word])]


def edits_of(library):
    """Edits of each kind, at the bounds and between, that a library has."""
    texts = library.texts
    room = 2000 - sum(map(len, texts))
    found = [("go",)] + [("come", signs) for signs in ("", "x", "yx", "z" * room)]
    for text, signs in enumerate(texts):
        long = len(signs)
        bounds = sorted({0, 1, long // 2, max(long - 1, 0), long})
        for at in bounds:
            found += [("put", text, at, new) for new in ("x", "xy", signs[:3] or "q", "z" * room) if new]
            found += [("change", text, at, new) for new in ("x", signs[at:at + 1], signs[at:], "z" * (long - at)) if new]
            found.append(("split", text, at))
            for many in sorted({1, 2, long - at}):
                found.append(("cut", text, at, many))
                found += [("move", text, at, many, other, place) for other, long_other in enumerate(map(len, texts))
                          for place in sorted({0, 1, long_other // 2, max(long_other - many, 0), long_other})]
        found += [("join", text, other) for other in range(len(texts))]
    return [edit for edit in dict.fromkeys(found) if all(part != 0 for part in edit[3:4])
            and plain_edit(library, edit) is not None]


def some_edits_of(library, most=150):
    """At most so many of these, always the same ones."""
    found = edits_of(library)
    return found if len(found) <= most else random.Random(len(found)).sample(found, most)


def error_of(test, function, *args):
    """The error that a call raises; the test fails if it raises none of the package's."""
    with test.assertRaises(PieceError) as caught:
        function(*args)
    return caught.exception

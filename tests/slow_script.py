"""A slow model of scripts: the rows as nested lists, executed in the slow model of a darkroom."""

from tests.slow_room import SlowRoom

LIMIT = 300


class Stop(Exception):
    """The script ends: `what` is "long", or the row that fails."""

    def __init__(self, what):
        super().__init__(what)
        self.what = what


def nested(rows):
    """The rows of a right script, each a list of its number, its words, and the rows in it."""
    found = []
    inner = [found]
    for number, row in enumerate(rows):
        words = row.split(" ")
        if words[0] == "end":
            inner.pop()
            continue
        inner[-1].append([number, words, []])
        if words[0] in ("repeat", "when"):
            inner.append(inner[-1][-1][2])
    return found


def stepped(rows, room):
    """Yield what each step of nested rows is; whoever takes it changes the darkroom then."""
    for number, words, inner in rows:
        yield number, words
        if words[0] == "repeat":
            for again in range(int(words[1])):
                yield number, ["again"]
                yield from stepped(inner, room)
        if words[0] == "when" and room.told()[0][int(words[1])] == words[2]:
            yield from stepped(inner, room)


def slow_script(negative, steps, text):
    """The slow darkroom behind a right script, and all of its lines; Stop if it is too long or a row fails."""
    room = SlowRoom(negative.width, negative.densities, steps)
    output = []
    made = 0
    for number, words in stepped(nested(text.split("\n")) if text else [], room):
        made += 1
        if made > LIMIT:
            raise Stop("long")
        given = [int(word) for word in words[1:]]
        if fails(words[0], given, len(negative)):
            raise Stop(number)
        if words[0] == "show":
            output.append(room.told()[0])
        elif words[0] == "expose":
            room.perform(("expose", given[0], tuple(given[1:])))
        elif words[0] in ("draw", "flip", "fresh"):
            result = room.perform((words[0], *given))
            if words[0] == "fresh":
                output.append(result)
    return room, output


def fails(word, given, cells):
    """Whether a row fails when it is executed."""
    if word == "draw":
        return 0 in given
    if word == "when":
        return given[0] >= cells
    covered = given[1:]
    return word == "expose" and (given[0] == 0 or covered != sorted(set(covered)) or max(covered, default=0) >= cells)

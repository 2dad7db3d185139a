"""Disks: two areas of text each, in which sealed lines tell whether they were written whole."""

from homeshold.basics import is_count, is_lined, is_pair
from homeshold.errors import NoArea, NoItems, NoNumber, NoStand, NoText
from homeshold.texts import check_behind, is_thing, sealed, unsealed

# A line wraps its item into two tuples, and a thing is nested at most thirty deep.
ITEM_DEPTH = 28
WHOLE = ("whole",)


class Disk:
    """Two areas, each a text, of which all that was written may be there, or only its first signs."""

    def __init__(self):
        self._areas = ["", ""]
        # The check of each area, kept along so that a new line needn't read all lines ahead.
        self._checks = [0, 0]
        # The generations of the areas that were seen to stand: what is written behind doesn't change them.
        self._generations = [None, None]

    def area(self, k):
        """The text of area k."""
        if not _is_area(k):
            raise NoArea()
        return self._areas[k]

    def area_check(self, k):
        """The check of the text of area k, which is one."""
        return self._checks[k]

    def generation(self, k):
        """The generation of area k, None if it doesn't stand."""
        if self._generations[k] is None:
            self._generations[k] = _generation(self._areas[k])
        return self._generations[k]

    def append(self, k, text, most):
        """Writes the text, or its first signs, at the end of area k; returns how many signs."""
        if not _is_area(k):
            raise NoArea()
        if not is_lined(text):
            raise NoText()
        if not _is_most(most):
            raise NoNumber()
        written = text if most is None else text[:most]
        self._checks[k] = check_behind(self._checks[k], len(self._areas[k]), written)
        self._areas[k] = self._areas[k] + written
        return len(written)

    def clear(self, k):
        """Empties area k."""
        if not _is_area(k):
            raise NoArea()
        self._put(k, "")

    def shorten(self, k, many):
        """Leaves the first many signs of area k."""
        if not _is_area(k):
            raise NoArea()
        if not is_count(many) or many > len(self._areas[k]):
            raise NoNumber()
        self._put(k, self._areas[k][:many])

    def _put(self, k, text):
        self._areas[k] = text
        self._checks[k] = check_behind(0, 0, text)
        self._generations[k] = None

    def copy(self):
        """A disk that is alike, and goes on apart."""
        twin = Disk()
        twin._areas = list(self._areas)
        twin._checks = list(self._checks)
        twin._generations = list(self._generations)
        return twin

    def __eq__(self, other):
        return isinstance(other, Disk) and self._areas == other._areas


def _is_area(thing):
    return is_count(thing) and thing <= 1


def _is_most(thing):
    return thing is None or is_count(thing)


def _line_at(text, place, number):
    """The line that counts at this place, behind lines with this check, () if none does.

    It is told by its entry, the place behind it, and the check of all up to there.
    """
    end = text.find("\n", place)
    if end < 0:
        return ()
    found = unsealed(text[place:end])
    if not found or not is_pair(found[0]) or found[0][0] != number:
        return ()
    return found[0][1], end + 1, check_behind(number, place, text[place:end])


def _counted(text):
    """The list of the entries of the lines that count, and how many signs these lines have."""
    if not is_lined(text):
        raise NoText()
    entries = []
    behind = 0
    line = _line_at(text, 0, 0)
    while line:
        entry, behind, number = line
        entries.append(entry)
        line = _line_at(text, behind, number)
    return entries, behind


def lines(text):
    """The list of the entries of the lines that count."""
    return _counted(text)[0]


def rest(text):
    """How many signs the lines that count have."""
    return _counted(text)[1]


def _generation(text):
    """The generation of an area with this text, None if it doesn't stand."""
    line = _line_at(text, 0, 0)
    if not line or not is_pair(line[0]) or line[0][0] != "area" or not is_count(line[0][1]):
        return None
    found = line[0][1]
    while line:
        entry, behind, number = line
        if entry == WHOLE:
            return found
        line = _line_at(text, behind, number)
    return None


def standing(disk):
    """The area that stands, of two the one of the greater generation, None if none stands."""
    first = disk.generation(0)
    second = disk.generation(1)
    if first is None and second is None:
        return None
    if first is None or second is not None and second > first:
        return 1
    return 0


def opened(disk):
    """The list of the items of the area that stands; what else is on the disk is struck."""
    k = standing(disk)
    if k is None:
        disk.clear(0)
        disk.clear(1)
        disk.append(0, written_lines((("area", 0), WHOLE), 0, 0), None)
        return []
    entries, many = _counted(disk.area(k))
    disk.shorten(k, many)
    disk.clear(1 - k)
    return [entry[1] for entry in entries if is_pair(entry) and entry[0] == "item"]


def written_lines(entries, number, many):
    """The text of the lines of these entries, behind so many signs with this check."""
    text = ""
    for entry in entries:
        line = sealed((number, entry)) + "\n"
        number = check_behind(number, many + len(text), line)
        text = text + line
    return text


def noted(disk, item, most):
    """Writes an item behind the area that stands, or the first signs of its line; returns how many."""
    if not is_thing(item, ITEM_DEPTH):
        raise NoItems()
    if not _is_most(most):
        raise NoNumber()
    k = standing(disk)
    if k is None:
        raise NoStand()
    line = written_lines((("item", item),), disk.area_check(k), len(disk.area(k)))
    return disk.append(k, line, most)


def kept(disk, items, most):
    """Writes the other area anew with just these items, or the first signs of it; returns how many."""
    if not isinstance(items, tuple) or not all([is_thing(item, ITEM_DEPTH) for item in items]):
        raise NoItems()
    if not _is_most(most):
        raise NoNumber()
    k = standing(disk)
    if k is None:
        raise NoStand()
    newer = disk.generation(k) + 1
    text = written_lines((("area", newer),) + tuple([("item", item) for item in items]) + (WHOLE,), 0, 0)
    disk.clear(1 - k)
    return disk.append(1 - k, text, most)

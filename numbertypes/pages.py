"""Pages: the texts of shelves; and the columns of realms."""

from numbertypes.contents import KINDS
from numbertypes.errors import InvalidText, Missing, RingError
from numbertypes.integers import is_name, written
from numbertypes.shelves import Shelf


def write_page(shelf):
    """The page of a shelf."""
    kinds = {name: kind for kind in KINDS for name in shelf.names(kind=kind)}
    page = ""
    for name in shelf.names():
        tail = "\nend\n" if kinds[name] == "ring" else "end\n"
        page = page + kinds[name] + " " + name + "\n" + shelf.item(name).text() + tail
    for _, promise in shelf.promises():
        page = page + " ".join(["promise", *promise]) + "\n"
    return page


def read_page(text):
    """The shelf with a page; InvalidText for any value that is none."""
    if not isinstance(text, str):
        raise InvalidText(0)
    *lines, tail = text.split("\n")
    shelf = Shelf(limit=Shelf.MOST)
    at = put_items(shelf, lines)
    for later in range(at, len(lines)):
        words = lines[later].split(" ")
        if words[0] != "promise" or len(words) != 4:
            raise InvalidText(later)
        do_command(shelf, tuple(words), later)
    if tail != "":
        raise InvalidText(len(lines))
    shelf.forget_steps()
    return shelf


def put_items(shelf, lines):
    """Puts the items of the first lines of a page; the index of the first line behind them."""
    at = 0
    last = ""
    while at < len(lines) and lines[at].split(" ")[0] in KINDS:
        kind, name = read_head(lines[at], at)
        if name <= last:
            raise InvalidText(at)
        end = end_of_item(lines, at)
        do_command(shelf, (kind, name, text_of_item(kind, lines[at + 1 : end])), at)
        last = name
        at = end + 1
    return at


def read_head(line, at):
    """The pair of the kind and the name of an item, for its first line."""
    words = line.split(" ")
    if len(words) != 2 or not is_name(words[1]):
        raise InvalidText(at)
    return (words[0], words[1])


def end_of_item(lines, at):
    """The index of the last line of the item whose first line is at this index."""
    for end in range(at + 1, len(lines)):
        if lines[end] == "end":
            return end
    raise InvalidText(len(lines))


def text_of_item(kind, lines):
    """The text of an item of a kind with these lines."""
    if kind == "ring":
        return "\n".join(lines)
    return "".join([line + "\n" for line in lines])


def do_command(shelf, command, at):
    """Does a command of a shelf; InvalidText with the index of its line if it is refused."""
    try:
        shelf.apply(command)
    except (RingError, Missing):
        raise InvalidText(at) from None


def columns(realms):
    """The list with a line for each realm: its index and its four numbers, right-aligned."""
    return [
        str(at).rjust(3) + "".join([written(number).rjust(8) for number in numbers_of(realm)])
        for at, realm in enumerate(realms)
    ]


def numbers_of(realm):
    """The list of the four numbers of a realm."""
    return [realm.inverse, realm.ones, realm.swaps, realm.squares]

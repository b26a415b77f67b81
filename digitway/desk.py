"""A desk that answers lines."""

from digitway.columns import Column
from digitway.errors import BadText, BadValue, CantBe, NoRow, NotFinite
from digitway.feeds import Feed
from digitway.reading import read
from digitway.rounding import NEAREST
from digitway.shapes import DOUBLE
from digitway.words import asked
from digitway.writing import show, with_figures, with_places

DONE = "done"


def begin(desk, shape, way):
    """Take a shape and a way, with a feed and a column of these that are new."""
    desk.own_shape = shape
    desk.own_way = way
    desk.own_feed = Feed(shape, way=way)
    desk.own_column = Column(shape, way=way)
    return DONE


def say_shape(desk, shape):
    return begin(desk, shape, desk.own_way)


def say_way(desk, way):
    return begin(desk, desk.own_shape, way)


def say_read(desk, text):
    return with_flags(read(text, desk.own_shape, way=desk.own_way))


def say_show(desk, text):
    return show(number_of(desk, text))


def say_figures(desk, many, text):
    return with_flags(with_figures(number_of(desk, text), many, way=desk.own_way))


def say_places(desk, places, text):
    return with_flags(with_places(number_of(desk, text), places, way=desk.own_way))


def say_word(desk, text):
    return str(number_of(desk, text).word())


def say_rank(desk, text):
    return str(number_of(desk, text).rank())


def say_up(desk, text):
    return str(number_of(desk, text).up())


def say_down(desk, text):
    return str(number_of(desk, text).down())


def say_push(desk, piece):
    desk.own_feed.push(piece)
    return DONE


def say_back(desk):
    desk.own_feed.back()
    return DONE


def say_heard(desk):
    heard = desk.own_feed.heard()
    return "nothing" if heard == "" else heard


def say_known(desk):
    number = desk.own_feed.known()
    if number is not None:
        return str(number)
    number = desk.own_feed.known(figures=True)
    return "not yet" if number is None else f"by figures {str(number)}"


def say_tell(desk, text):
    return with_flags(desk.own_column.tell(text))


def say_drop(desk, row):
    desk.own_column.drop(row)
    return DONE


def say_total(desk):
    return with_flags(desk.own_column.total())


def say_rows(desk):
    texts = [str(number) for number in desk.own_column.numbers()]
    return " ".join(texts) if len(texts) > 0 else "nothing"


def say_flags(desk):
    return all_flags(desk.own_column.flags())


def say_settle(desk):
    return all_flags(desk.own_column.settle())


def number_of(desk, text):
    """The number that a text tells at the desk."""
    number, flags = read(text, desk.own_shape, way=desk.own_way)
    return number


def with_flags(pair):
    """The text of a pair (number, flags) or (decimal, flags)."""
    told, flags = pair
    return " ".join([str(told), *flags])


def all_flags(flags):
    """The text of flags alone."""
    return " ".join(flags) if len(flags) > 0 else "none"


ANSWERS = {
    "shape": say_shape,
    "way": say_way,
    "read": say_read,
    "show": say_show,
    "figures": say_figures,
    "places": say_places,
    "word": say_word,
    "rank": say_rank,
    "up": say_up,
    "down": say_down,
    "push": say_push,
    "back": say_back,
    "heard": say_heard,
    "known": say_known,
    "tell": say_tell,
    "drop": say_drop,
    "total": say_total,
    "rows": say_rows,
    "flags": say_flags,
    "settle": say_settle,
}


class Desk:
    """Answers lines by texts, with a shape, a way, a feed and a column of its own."""

    def __init__(self):
        self.own_shape = DOUBLE
        self.own_way = NEAREST
        self.own_feed = Feed()
        self.own_column = Column()

    def say(self, line):
        """The answer to a line, or the words by which anything is refused."""
        told = asked(line)
        if told is None:
            return "no line"
        word, given = told
        answer = ANSWERS[word]
        try:
            return answer(self, *given)
        except BadText as wrong:
            return f"bad sign {wrong.place}"
        except BadValue:
            return "full"
        except NotFinite as other:
            return other.state
        except NoRow:
            return "no row"
        except CantBe:
            return "nothing to take back"

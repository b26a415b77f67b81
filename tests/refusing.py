"""Refusals of calls: each argument that is none, by name and by place, alone and beside others."""

import inspect

from digitway.errors import NoPaper

from tests.things import NOT_WHOLE, caught_from, refused, refused_text

GREAT = {"great": 10**3999, "small": -(10**3999)}


def but(*more):
    """What is no whole number, and these that are beyond the bounds."""
    return {**NOT_WHOLE, **GREAT, **{f"more {at}": thing for at, thing in enumerate(more)}}


def without(things, *names):
    return {name: thing for name, thing in things.items() if name not in names}


def refused_as(case, name, call, *given, **named):
    """Check the refusal that an argument of that name has coming, if it is no such thing at all."""
    if name == "text":
        refused_text(case, 0, call, *given, **named)
    elif name == "paper":
        case.assertEqual(caught_from(case, NoPaper, call, given, named).what, "paper")
    else:
        refused(case, name, call, *given, **named)


def needed(call, good):
    """The arguments that have no default."""
    listed = inspect.signature(call).parameters
    return {name: thing for name, thing in good.items() if listed[name].default is inspect.Parameter.empty}


class Refusals:
    """Tests over BAD, what is none by the name of the argument, and CALLS.

    CALLS has by the call what it takes, in the order of its arguments, and how many of these may stand by place. The
    refusals come in that order, unless ORDER has another for the call.
    """

    BAD = {}
    CALLS = {}
    ORDER = {}

    def names(self, call):
        return list(self.ORDER.get(call, self.CALLS[call][0]))

    def each_bad(self):
        for call, (good, by_place) in self.CALLS.items():
            for at, name in enumerate(good):
                for what, thing in self.BAD[name].items():
                    yield call, good, by_place, at, name, what, thing

    def test_all_are_well_as_they_are(self):
        for call, (good, by_place) in self.CALLS.items():
            call(**good)
            call(**dict(reversed(good.items())))
            given, named = list(good.values())[:by_place], dict(list(good.items())[by_place:])
            call(*given, **named)
            # A paper is one of all that stands beside it.
            if "paper" not in good:
                call(*given)

    def test_by_name(self):
        for call, good, by_place, at, name, what, thing in self.each_bad():
            with self.subTest(call=call.__name__, name=name, what=what):
                refused_as(self, name, call, **{**good, name: thing})

    def test_by_place(self):
        for call, good, by_place, at, name, what, thing in self.each_bad():
            if at < by_place:
                with self.subTest(call=call.__name__, name=name, what=what):
                    given, named = list(good.values())[:by_place], dict(list(good.items())[by_place:])
                    given[at] = thing
                    refused_as(self, name, call, *given, **named)

    def test_alone_with_defaults_left_out(self):
        for call, good, by_place, at, name, what, thing in self.each_bad():
            if "paper" not in good:
                with self.subTest(call=call.__name__, name=name, what=what):
                    refused_as(self, name, call, **{**needed(call, good), name: thing})

    def test_the_first_of_two(self):
        for call, (good, by_place) in self.CALLS.items():
            names = self.names(call)
            for at, first in enumerate(names):
                for second in names[at + 1:]:
                    for what in ("deep tuple", "agreeable", "hostile", "True"):
                        if what not in self.BAD[first] or what not in self.BAD[second]:
                            continue
                        bad = {first: self.BAD[first][what], second: self.BAD[second][what]}
                        with self.subTest(call=call.__name__, first=first, second=second, what=what):
                            refused_as(self, first, call, **{**good, **bad})
                            refused_as(self, first, call, **dict(reversed({**good, **bad}.items())))

    def test_the_first_of_all_that_are_left(self):
        for call, (good, by_place) in self.CALLS.items():
            bad = {name: self.BAD[name]["deep dict"] for name in good}
            for name in self.names(call):
                refused_as(self, name, call, **{**good, **bad})
                del bad[name]

    def test_what_is_refused_is_as_it_was(self):
        for call, (good, by_place) in self.CALLS.items():
            for name in good:
                things = (11, [-24], {"a": 5}), {"a": [1]}, ([1], "x", {2: [3]})
                for thing in things:
                    with self.assertRaises(ValueError):
                        call(**{**good, name: thing})
                self.assertEqual(things, ((11, [-24], {"a": 5}), {"a": [1]}, ([1], "x", {2: [3]})))

    def test_the_same_is_told_again(self):
        for call, (good, by_place) in self.CALLS.items():
            told = {name: repr(thing) for name, thing in good.items()}
            one = call(**good)
            for name in good:
                with self.assertRaises(ValueError):
                    call(**{**good, name: {}})
            self.assertTrue(one == call(**good), call.__name__)
            self.assertEqual({name: repr(thing) for name, thing in good.items()}, told)

"""Checks of papers: each comes out by what it says itself, or is refused."""

from digitway.errors import NoPaper
from digitway.gaps import point, want_stretch
from digitway.shapes import DOUBLE, is_whole
from digitway.sure import half_way_walks, want_sure
from digitway.tables import BITS, WIDTH, has_all_bits


def check_gap(walk, least, most, paper, *, stop=None):
    """Refuse what is no paper that no step, up to stop if told, hits from least to most."""
    want_stretch(walk, least, most, stop)
    if not comes_out(walk, least, most, paper, stop):
        raise NoPaper()


def check_sure(power, paper, shape=DOUBLE, *, bits=BITS, width=WIDTH):
    """Refuse what is no paper that bits and width are sure of a shape at a power."""
    want_sure(power, shape, bits, width)
    rows = [] if has_all_bits(power, bits) else half_way_walks(power, shape, bits, width)
    if not isinstance(paper, tuple) or len(paper) != len(rows):
        raise NoPaper()
    for told, wanted in zip(paper, rows):
        if not row_comes_out(told, wanted):
            raise NoPaper()


def row_comes_out(told, wanted):
    """Whether anything is a row (exponent, paper) that comes out for a wanted row."""
    exponent, first, walk, wide, stop = wanted
    return (
        isinstance(told, tuple)
        and len(told) == 2
        and is_whole(told[0], exponent, exponent)
        and wide < walk[2]
        and comes_out(walk, 0, wide, told[1], stop)
    )


def comes_out(walk, least, most, paper, stop):
    """Whether anything is a paper of a gap, and comes out."""
    if not is_gap_paper(paper):
        return False
    ahead, rise, behind, fall, at = paper
    if not steps_come_out(walk, paper, stop):
        return False
    last = ahead + behind - 1
    if stop is not None and stop < last:
        last = stop
    away = (least - point(walk, at)) % walk[2]
    return at <= last and away >= 1 and away + most - least < gap_above(paper, last)


def is_gap_paper(thing):
    """Whether anything has the parts of a paper of a gap."""
    return (
        isinstance(thing, tuple)
        and len(thing) == 5
        and is_from(thing[0], 1)
        and is_from(thing[1], 0)
        and is_from(thing[2], 1)
        and is_from(thing[3], 0)
        and is_from(thing[4], 0)
    )


def is_from(thing, least):
    """Whether anything is a whole number that isn't less than least."""
    return isinstance(thing, int) and not isinstance(thing, bool) and thing >= least


def steps_come_out(walk, paper, stop):
    """Whether the paper's steps rise and fall as it says, and are as many as the stop or the circle asks for."""
    start, step, modulus = walk
    ahead, rise, behind, fall, at = paper
    many = ahead + behind
    return (
        ahead * fall + behind * rise == modulus
        and (ahead * step - rise) % modulus == 0
        and (behind * step + fall) % modulus == 0
        and ((stop is not None and stop < many) or many * step % modulus == 0)
    )


def gap_above(paper, last):
    """How far the next point above the paper's is, of the points up to the last."""
    ahead, rise, behind, fall, at = paper
    if at + ahead <= last:
        return rise
    if at >= behind:
        return fall
    return rise + fall

"""Deeds of a desk that keep a telling or a box: what they make."""

from neverlouder.boxes import Box
from neverlouder.built import box_of, steps_of
from neverlouder.errors import NotDoable, UnknownPoint
from neverlouder.joined import product, share
from neverlouder.made import telling_of
from neverlouder.members import member
from neverlouder.tellings import is_told_at, told_telling


def _telling():
    return []


def _tell(tolds, point, entries):
    return told_telling(tolds + [(point, entries)])


def _next(tolds, point, number):
    _need_told(tolds, point)
    return told_telling([(place, told + [number] if place == point else told) for place, told in tolds])


def _untell(tolds, point):
    _need_told(tolds, point)
    return [(place, told) for place, told in tolds if place != point]


def _need_told(tolds, point):
    if not is_told_at(tolds, point):
        raise UnknownPoint(point)


def _copy(tolds):
    return tolds


def _box(curves):
    top, base = curves
    return Box(top, base)


def _build(tolds):
    steps = steps_of(tolds)
    if steps is None:
        raise NotDoable()
    return box_of(steps)


def _member(tolds, free):
    return member(tolds, free)


def _behind(box, other):
    return product(box, other)


def _share(box, other, ratio):
    return share(box, other, ratio)


def _take(box, many, points):
    return telling_of(box, points, many)


MAKERS = {
    "telling": _telling, "tell": _tell, "next": _next, "untell": _untell, "copy": _copy, "box": _box, "build": _build,
    "member": _member, "behind": _behind, "share": _share, "take": _take,
}


def made_by(word, parts):
    """The telling or the Box that a deed keeps; parts are what stands behind a NEW, or all, names told as things."""
    maker = MAKERS[word]
    return maker(*parts)

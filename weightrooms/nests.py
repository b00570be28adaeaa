"""Things within things: each has its share of the room, and is the room of what is in it."""

from weightrooms.errors import NoThing, TooMany
from weightrooms.keepers import is_name
from weightrooms.rooms import check_box, is_weight
from weightrooms.rules import by_rule, check_rule

MOST_THINGS = 40
MOST_DEEP = 8


def nested(room, things, rule):
    """The boxes of things and of all things in them: tuples (name, box), each thing ahead of those in it."""
    check_box(room)
    # All names are looked at first: NoThing goes before TooMany, wherever in the things it is.
    depths = {}
    gather_depths(things, 1, depths)
    if len(depths) > MOST_THINGS or max(depths.values()) > MOST_DEEP:
        raise TooMany("these are more things than forty, or deeper than eight")
    check_rule(rule)
    return nested_boxes(room, things, rule)


def gather_depths(things, deep, depths):
    """Put how deep each thing lies into the dict depths, by names; refuse what is no list of things."""
    if not isinstance(things, list) or len(things) == 0:
        raise NoThing("this is no list of things")
    for thing in things:
        if not isinstance(thing, tuple) or len(thing) != 2:
            raise NoThing("a thing is a name and its weight, or a name and the things in it")
        name, held = thing
        if not is_name(name) or name in depths:
            raise NoThing("this is no name, or stands twice")
        depths[name] = deep
        if not is_weight(held):
            gather_depths(held, deep + 1, depths)


def weight_of_thing(thing):
    """The weight of a thing: its own, or that of all things in it."""
    held = thing[1]
    if isinstance(held, list):
        return sum([weight_of_thing(inner) for inner in held])
    return held


def nested_boxes(room, things, rule):
    """The tuples (name, box) of things in a room, in order."""
    told = []
    boxes = by_rule(rule, room, [weight_of_thing(thing) for thing in things])
    for thing, box in zip(things, boxes):
        name, held = thing
        told.append((name, box))
        if isinstance(held, list):
            told.extend(nested_boxes(box, held, rule))
    return told

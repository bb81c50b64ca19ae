"""Changes of a life, made so that nobody loses his place but by those whom they touch."""

from givesifgets.deeds import can_do, do_all, do_deed, ring_deed
from givesifgets.errors import InvalidQuestion
from givesifgets.kept import kept_plan
from givesifgets.living import web_beside
from givesifgets.moves import moved_ahead
from givesifgets.plans import served
from givesifgets.strands import strands
from givesifgets.turns import turned_pairs
from givesifgets.values import is_below, is_pair_below
from givesifgets.worlds import people_left, web_left

ENTRIES = {"deed": 2, "move": 3, "promise": 2, "free": 2, "all": 1}


def _getting(deed):
    """The people who get by a deed, ascending."""
    if deed[0] == "ring":
        return tuple(sorted([person for _, person in deed[1]]))
    return (deed[1][1],) if deed[0] == "link" else ()


def _may_be_done(life, deed):
    """Whether any value is a deed that can be done, and breaks no promise by who gets."""
    world, _, promised, _ = life
    if not can_do(world, deed):
        return False
    people = _getting(deed)
    return people in promised or not any([person in people for person in served(promised)])


def is_change(life, value):
    """Whether any value is a change that can be made."""
    world, order, promised, plan = life
    if not isinstance(value, tuple) or len(value) == 0 or not isinstance(value[0], str):
        return False
    if len(value) != ENTRIES.get(value[0]):
        return False
    if value[0] == "deed":
        return _may_be_done(life, value[1])
    if value[0] == "move":
        return is_below(len(order), value[1]) and is_below(len(order), value[2])
    if value[0] == "all":
        return True
    pairs = plan if value[0] == "promise" else promised
    return is_pair_below(len(order), value[1]) and value[1] in pairs


def _world_behind(life, change):
    world, _, promised, plan = life
    if change[0] == "deed":
        return do_deed(world, change[1])
    if change[0] == "all":
        # no two of these pairs have a person in common: so each ring can be done behind the others
        return do_all(world, [ring_deed(world, pair) for pair in promised + plan])
    return world


def _order_behind(life, change, world):
    order = life[1]
    if change[0] == "move":
        return moved_ahead(order, change[1], change[2])
    return order + tuple(range(len(order), len(world[1][1])))


def _promised_behind(life, change, world):
    promised = life[2]
    if change[0] == "promise":
        return tuple(sorted(promised + (change[1],)))
    freed = _freed(change)
    left = web_left(world)[1]
    return tuple([pair for pair in promised if pair in left and pair not in freed])


def _freed(change):
    """The pair that a change frees, alone, if it frees any."""
    return change[1:] if change[0] == "free" else ()


def _behind(life, change):
    """The world, the order and the promised pairs behind a change."""
    world = _world_behind(life, change)
    return (world, _order_behind(life, change, world), _promised_behind(life, change, world))


def _turning(life, change, behind):
    """The rest of the plan behind a change, and the ways by which it is turned."""
    world, order, promised = behind
    web = web_beside(world, promised)
    rest = tuple(sorted([pair for pair in life[3] + _freed(change) if pair in web[1]]))
    turns = strands(rest, kept_plan(web, order))
    # by the rings nobody would come or go: so they are left as they are
    return (rest, tuple([turn for turn in turns if turn[0] == "way"]))


def ways_of(life, change):
    """The ways by which the rest is turned when a change is made."""
    _, ways = _turning(life, change, _behind(life, change))
    return ways


def changed(life, change):
    """The life behind a change, any value."""
    if not is_change(life, change):
        raise InvalidQuestion(1)
    behind = _behind(life, change)
    plan, ways = _turning(life, change, behind)
    for way in ways:
        plan = turned_pairs(plan, way)
    return behind + (plan,)


def touched(life, change):
    """The lot of those left behind a change whom it touches itself."""
    world, _, promised, plan = life
    later = _world_behind(life, change)
    web = web_left(later)
    pairs = [pair for pair in promised + plan if pair not in web[1]]
    named = [person for pair in pairs + list(_freed(change)) for person in pair]
    if change[0] == "move":
        named.append(change[1])
    left = people_left(world)
    return tuple([person for person in people_left(later) if person not in left or person in named])

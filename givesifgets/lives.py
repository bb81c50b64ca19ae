"""Rows of changes: what becomes of a life, who comes and goes, and what was seen."""

from givesifgets.errors import InvalidDeed, InvalidQuestion
from givesifgets.living import served_now
from givesifgets.livingchanges import changed
from givesifgets.news import come_and_gone_lots
from givesifgets.webs import pair_web, without
from givesifgets.worlds import people_left, web_left


def _lives(life, changes):
    """The life ahead of each one of a sequence of changes, and that behind the last one."""
    lives = [life]
    for at, change in enumerate(changes):
        try:
            lives.append(changed(lives[-1], change))
        except InvalidQuestion:
            raise InvalidDeed(at) from None
    return lives


def lived(life, changes):
    """The life behind a sequence of changes, one after another."""
    return _lives(life, changes)[-1]


def diary(life, changes):
    """For each change the lots of those who come by it, and of those left who go."""
    lives = _lives(life, changes)
    told = []
    for one, later in zip(lives, lives[1:]):
        come, gone = come_and_gone_lots(served_now(one), served_now(later))
        left = people_left(later[0])
        told.append((come, tuple([person for person in gone if person in left])))
    return tuple(told)


def _all_at(changes):
    """The places at which all pairs are done."""
    return [at for at, change in enumerate(changes) if change[0] == "all"]


def done_lot(life, changes):
    """The lot of all who get when all pairs are done."""
    lives = _lives(life, changes)
    people = []
    for at in _all_at(changes):
        come, _ = come_and_gone_lots(lives[at][0][2], lives[at + 1][0][2])
        people.extend(come)
    return tuple(sorted(people))


def _web_of_all(lives, webs):
    """The web of all people in the end with the pairs of some webs."""
    return (len(lives[-1][1]), tuple(sorted({pair for web in webs for pair in web[1]})))


def _web_there(world):
    """The web of the registry without the pairs of those who are away."""
    return without(pair_web(world[1]), world[5])


def seen_web(life, changes):
    """The web of all people in the end with each pair that was left right ahead of an ("all",)."""
    lives = _lives(life, changes)
    return _web_of_all(lives, [web_left(lives[at][0]) for at in _all_at(changes)])


def there_web(life, changes):
    """The web of all people in the end with each pair that was there then, whether or not they got."""
    lives = _lives(life, changes)
    return _web_of_all(lives, [_web_there(lives[at][0]) for at in _all_at(changes)])

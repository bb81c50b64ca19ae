"""The house: a docket, the deeds that were done since, and what is planned next."""

from givesifgets.audits import why_not
from givesifgets.deeds import ring_deed
from givesifgets.errors import InvalidQuestion
from givesifgets.kept import kept_lot, kept_plan
from givesifgets.keptpapers import kept_paper
from givesifgets.logs import cut_log, logged, mended, read_back
from givesifgets.reading import read_docket
from givesifgets.values import is_below, is_number
from givesifgets.worlds import people_left, start_world, web_left


class House:
    """What a docket told first, and what has become of it by deeds."""

    def __init__(self, text):
        self._docket = read_docket(text)
        # the world and the log: all that is not as the docket told it follows from these
        self._now = (start_world(self._docket[0]), ())

    def __len__(self):
        return len(self._now[1])

    def world(self):
        """The world as it is now."""
        return self._now[0]

    def log(self):
        """The log as it is now."""
        return self._now[1]

    def registry(self):
        """The registry as it is now."""
        return self.world()[1]

    def _newcomers(self):
        """The people who came since, ascending."""
        return tuple(range(len(self._docket[1]), len(self.registry()[1])))

    def order(self):
        """The order as it is now: who came since stands last."""
        return self._docket[1] + self._newcomers()

    def wishes(self):
        """The wishes as they are now: who came since wants nobody's friend."""
        return self._docket[2] + tuple([(person,) for person in self._newcomers()])

    def do(self, deed):
        """Do a deed, any value, and log it."""
        world, log = self._now
        self._now = logged(world, log, deed)

    def cut(self, signs):
        """Fall when so many signs of the log are on the store, begin anew, and tell how many deeds were lost."""
        if not is_number(signs):
            raise InvalidQuestion(0)
        log = mended(cut_log(self.log(), signs))
        lost = len(self) - len(log)
        self._now = (read_back(self._docket[0], log), log)
        return lost

    def within(self, work):
        """What work returns of the house; behind it the house is as it was."""
        now = self._now
        try:
            return work(self)
        finally:
            self._now = now

    def _web(self):
        return web_left(self.world())

    def plan(self):
        """Some plan of the web that is left that serves just the kept ones."""
        return kept_plan(self._web(), self.order())

    def paper(self):
        """The paper that shows of each other one why he is not kept."""
        return kept_paper(self._web(), self.order())

    def reason(self, person):
        """Why a person, any value, is not kept; None for who is, or is not left."""
        web, order = self._web(), self.order()
        if not is_below(web[0], person):
            raise InvalidQuestion(0)
        if person not in people_left(self.world()) or person in kept_lot(web, order):
            return None
        return why_not(web, order, person)

    def next_rings(self):
        """For each pair of the plan its ring as a deed."""
        return tuple([ring_deed(self.world(), pair) for pair in self.plan()])

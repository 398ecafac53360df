"""Workers, which make and tie dots and look at them as they are asked."""

from lookundone.branches import end_table
from lookundone.errors import NotDone, NotReady, need
from lookundone.gatetables import rows_turned
from lookundone.kinds import is_number_below, is_turn, is_turns
from lookundone.states import stand_after, stand_start
from lookundone.tables import one_form
from lookundone.webkinds import is_dot_of, is_web, looked_of


def stand_made(web, sent):
    """What stands there when all dots are made, the looked ones with the turns sent, and all ties laid."""
    dots, ties, _, _ = web
    stand = stand_start(())
    for dot in dots:
        stand = stand_after(stand, ("new", dot), 0)
    live, outcomes, power, rows = stand
    for dot, turn in zip(looked_of(web), sent):
        rows = rows_turned(rows, 1 << dots.index(dot), turn)
    stand = (live, outcomes, power, rows)
    for one, other in ties:
        stand = stand_after(stand, ("tie", one, other), 0)
    return stand


class Worker:
    """A web's dots, made and tied, and what is left of them behind looks."""

    def __init__(self, web, sent):
        need(is_web(web), "web")
        need(is_turns(len(looked_of(web)), sent), "sent")
        self.web = web
        self.stand = stand_made(web, sent)

    def looks(self, dot, turn, bit):
        """Look at dot at this turn, with this outcome."""
        need(is_dot_of(looked_of(self.web), dot), "dot")
        need(is_turn(turn), "turn")
        need(is_number_below(2, bit), "bit")
        if dot not in self.left():
            raise NotReady(dot)
        self.stand = stand_after(self.stand, ("look", dot, turn, (), ()), bit)

    def left(self):
        """The lot of the looked dots not yet looked at."""
        live = self.stand[0]
        return tuple(dot for dot in looked_of(self.web) if dot in live)

    def held(self):
        """The table of all dots not yet looked at, ascending."""
        # The dots were made ascending, so they stand in this sequence.
        live, _, power, rows = self.stand
        return one_form(len(live), 0, power, rows)

    def outs_table(self):
        """The table of the outs, in the sequence of the web."""
        left = self.left()
        if left:
            raise NotDone(left)
        outs = self.web[3]
        return end_table(((), outs, (), (0,) * len(outs)), self.stand)

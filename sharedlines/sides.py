"""Contests of two sides, and searches for a layout, step by step."""

from sharedlines.caps import TARGETS, caps, pressing, sparing
from sharedlines.checks import is_integer, is_one_of
from sharedlines.errors import BadReport, BadRun, BadTarget, NotPicked, NothingDone, Picked, UnknownThread
from sharedlines.finding import finding_numbers_of, surely_finds
from sharedlines.moves import is_running, placed, step_behind
from sharedlines.situations import choices_of, explored_situations
from sharedlines.steps import start


class Contest:
    """A contest from the start. One side picks a thread, then the other one steers it."""

    def __init__(self, layout, threads, by):
        self._caps = caps(layout, threads, by)
        self._by = by
        self._nodes = placed(layout, threads)
        self._state = start(layout, threads)
        self._sum = 0
        self._thread = None
        # What was ahead of each pick and each step that is not taken back.
        self._done = []
        spared, pressed = sparing(layout, threads, by), pressing(layout, threads, by)
        if by == TARGETS:
            self._threads_told = {state: thread for state, (thread, _) in pressed.items()}
            self._targets_told = spared
        else:
            self._threads_told = spared
            self._targets_told = {(state, thread): target for state, (targets, _) in pressed.items()
                                  for thread, target in targets.items()}

    def state(self):
        """The state of now."""
        return self._state

    def moves(self):
        """The number of moves so far."""
        return self._sum

    def picked(self):
        """The thread that is picked, or None."""
        return self._thread

    def pick(self, thread):
        """Picks a thread."""
        if self._thread is not None:
            raise Picked()
        if not is_running(self._state[0], thread):
            raise UnknownThread(thread)
        self._keep()
        self._thread = thread

    def steer(self, target):
        """Makes the step of the picked thread to a target; its moves are returned."""
        if self._thread is None:
            raise NotPicked()
        if not is_one_of(target, self._targets()):
            raise BadTarget()
        self._keep()
        moves, self._state = step_behind(self._nodes, self._state, self._thread, target)
        self._sum += moves
        self._thread = None
        return moves

    def left(self):
        """The number of moves that the sparing side can still keep to, or None."""
        if self._thread is None:
            return self._caps[self._state]
        totals = []
        for target in self._targets():
            moves, behind = step_behind(self._nodes, self._state, self._thread, target)
            if self._caps[behind] is not None:
                totals.append(moves + self._caps[behind])
        if self._by == TARGETS:
            return min(totals, default=None)
        return max(totals) if len(totals) == len(self._targets()) else None

    def advice(self):
        """What its table tells the side whose turn it is: a list of one thread or target, or of nothing."""
        if self._thread is None:
            told, key = self._threads_told, self._state
        else:
            told, key = self._targets_told, (self._state, self._thread)
        return [told[key]] if key in told else []

    def back(self):
        """Takes back the last pick or the last step, whichever was later."""
        if len(self._done) == 0:
            raise NothingDone()
        self._state, self._sum, self._thread = self._done.pop()

    def _keep(self):
        """Keeps what is now, to be able to come back to it."""
        self._done.append((self._state, self._sum, self._thread))

    def _targets(self):
        """The targets of the picked thread."""
        return self._nodes[self._thread][self._state[0][self._thread]][2]


class Search:
    """A search for the layout of a mixture, by what is seen of steps."""

    def __init__(self, mixture, threads):
        self._graph = explored_situations(mixture, threads)
        self._numbers = finding_numbers_of(self._graph)
        # The number of the situation of now.
        self._now = 0
        self._many = 0

    def possible(self):
        """The list of the places of the layouts that are still possible."""
        return list(self._graph.states[self._now][1])

    def report(self, thread, target, moves):
        """A step was made, and had so many moves, 0 or 1."""
        seen = [step[2:] for step in self._graph.steps[self._now]
                if is_one_of(thread, step[:1]) and is_one_of(target, step[1:2])]
        if len(seen) == 0:
            raise BadRun(self._many)
        fitting = [behind for some_moves, behind in seen if is_integer(moves) and moves == some_moves]
        if len(fitting) == 0:
            raise BadReport()
        self._now = fitting[0]
        self._many += 1

    def needed(self):
        """The finding number of now, or None."""
        return self._numbers[self._now]

    def next_step(self):
        """A pair (thread, target) that begins a way of as many steps as are needed, or None."""
        many = self.needed()
        if many is None or many == 0:
            return None
        ready = [choice for choice in choices_of(self._graph.steps[self._now])
                 if surely_finds(self._numbers, choice, many)]
        return ready[0][:2]

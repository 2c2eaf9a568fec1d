"""A leader leads a program by hand: it does steps, takes them back, and tries some."""

from ascalls.errors import NothingToUndo, NotUsable
from ascalls.kinds import is_event, is_number
from ascalls.runs import next_steps, stand_after


class Leader:
    """A run of a program that grows by steps."""

    def __init__(self, program):
        self.program = program
        self._steps = ()
        # So many of the first steps cannot be taken back: those before the innermost trial.
        self._floor = 0

    @property
    def events_now(self):
        """The run of the leader."""
        return _events_in(self._steps)

    @property
    def next_step(self):
        """The set of the steps that are possible now; a step that is assigned is done."""
        return next_steps(self.program, self.events_now)

    @next_step.setter
    def next_step(self, value):
        self.go(value)

    def go(self, step):
        """Do a step; the stand of the run then."""
        if not _can_follow(self.program, self._steps, step):
            raise NotUsable("step", -1)
        self._steps = self._steps + (step,)
        return stand_after(self.program, self.events_now)

    def __iadd__(self, other):
        self.go(other)
        return self

    def __len__(self):
        return len(self._steps)

    def undo(self, steps=1):
        """Take back the last steps, so many; the tuple of them."""
        if not is_number(steps):
            raise NotUsable("steps", -1)
        left = len(self._steps) - steps
        if left < self._floor:
            raise NothingToUndo(steps)
        undone = self._steps[left:]
        self._steps = self._steps[:left]
        return undone

    def trial(self):
        """For a "with" statement: at its end the leader has the steps that it had at its beginning."""
        return Trial(self)

    def tried(self, steps):
        """The run that the leader would have after these steps."""
        if not isinstance(steps, tuple):
            raise NotUsable("steps", -1)
        done = self._steps
        for k, step in enumerate(steps):
            if not _can_follow(self.program, done, step):
                raise NotUsable("steps", k)
            done = done + (step,)
        return _events_in(done)


class Trial:
    """What a leader had when a "with" statement began, to be given back at its end."""

    def __init__(self, leader):
        self._leader = leader
        self._steps = ()
        self._floor = 0

    def __enter__(self):
        leader = self._leader
        self._steps = leader._steps
        self._floor = leader._floor
        leader._floor = len(self._steps)
        return leader

    def __exit__(self, kind, value, trace):
        leader = self._leader
        leader._steps = self._steps
        leader._floor = self._floor


def _events_in(steps):
    """The run that consists of these steps."""
    return tuple([event for step in steps for event in step])


def _can_follow(program, steps, thing):
    """Whether any value is a step that is possible after these steps."""
    if not isinstance(thing, tuple) or not all([is_event(event) for event in thing]):
        return False
    return thing in next_steps(program, _events_in(steps))

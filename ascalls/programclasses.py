"""Programs as objects that never change."""

from ascalls.errors import NotUsable
from ascalls.kinds import is_name
from ascalls.programchanges import mirrored, with_arrow, with_calls, with_channel, with_form
from ascalls.programchanges import with_party, without_arrow, without_channel, without_party
from ascalls.programchecker import lets_program
from ascalls.programparts import arrows_from, find_channel, find_party, party_of
from ascalls.programreadings import program_read
from ascalls.programtexts import program_text


class Program:
    """A program; what its methods return are new ones."""

    def __init__(self, parties=(), channels=()):
        lets_program((parties, channels))
        self._parties = parties
        self._channels = channels
        self._names = tuple([party[0] for party in parties])

    @property
    def parties(self):
        """The tuple of the parties."""
        return self._parties

    @property
    def channels(self):
        """The tuple of the channels."""
        return self._channels

    @property
    def form(self):
        """The pair of the parties and the channels."""
        return (self._parties, self._channels)

    def __getitem__(self, at):
        return party_of(self.form, at)

    def __contains__(self, x):
        return find_party(self.form, x) is not None

    def __len__(self):
        return len(self._names)

    def __iter__(self):
        return iter(self._names)

    def __eq__(self, other):
        return isinstance(other, Program) and self._parties == other._parties and self._channels == other._channels

    def __str__(self):
        return str(program_text(self.form))

    def __call__(self, party, place):
        return arrows_from(self.form, party, place)

    def __add__(self, other):
        parties, channels = with_channel(self.form, other)
        return Program(parties, channels)

    def __sub__(self, other):
        if other not in self._channels:
            raise NotUsable("channel", -1)
        parties, channels = without_channel(self.form, other[0])
        return Program(parties, channels)

    def added(self, party):
        """The Program with a party more."""
        parties, channels = with_party(self.form, party)
        return Program(parties, channels)

    def dropped(self, party):
        """The Program without a party and its channels."""
        parties, channels = without_party(self.form, party)
        return Program(parties, channels)

    def extended(self, party, arrow):
        """The Program in which a party has an arrow more."""
        parties, channels = with_arrow(self.form, party, arrow)
        return Program(parties, channels)

    def shortened(self, party, k):
        """The Program in which a party lacks its arrow k."""
        parties, channels = without_arrow(self.form, party, k)
        return Program(parties, channels)

    def formed(self, name, form):
        """The Program in which a channel has this form."""
        parties, channels = with_form(self.form, name, form)
        return Program(parties, channels)

    def called(self, names):
        """The Program in which the channels of these names are calls."""
        parties, channels = with_calls(self.form, names)
        return Program(parties, channels)

    def mirror(self):
        """The Program in which each channel goes the other way."""
        parties, channels = mirrored(self.form)
        return Program(parties, channels)

    def all_arrows(self):
        """Yield the pairs of an event and its arrow, ascending by event."""
        for name, _, arrows in self._parties:
            for k, arrow in enumerate(arrows):
                yield ((name, k), arrow)

    @classmethod
    def parsed(cls, text):
        """The Program that a string writes."""
        parties, channels = program_read(text)
        return Program(parties, channels)

    @staticmethod
    def plain(names):
        """The Program without channels in which the parties of these names have nothing to do."""
        if not _is_set_of_names(names):
            raise NotUsable("names", -1)
        return Program(tuple([(name, (0,), ()) for name in sorted(set(names))]), ())


class Called(Program):
    """A Program with some channels made calls."""

    def __init__(self, program, *names):
        form = program.form
        for k, name in enumerate(names):
            if find_channel(form, name) is None:
                raise NotUsable("name", k)
        parties, channels = with_calls(form, tuple(sorted(set(names))))
        super().__init__(parties, channels)
        self._source = program

    @property
    def source(self):
        """The Program that this one was made from."""
        return self._source


class Mirrored(Program):
    """A Program in which each channel goes the other way."""

    def __init__(self, program):
        parties, channels = mirrored(program.form)
        super().__init__(parties, channels)
        self._source = program

    @property
    def source(self):
        """The Program that this one was made from."""
        return self._source


def _is_set_of_names(thing):
    """Whether any value is a tuple of names, none twice, in any order."""
    if not isinstance(thing, tuple) or not all([is_name(name) for name in thing]):
        return False
    return len(set(thing)) == len(thing)

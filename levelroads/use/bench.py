"""A bench: sums of one level under names, pledges that are kept, and changes that can be taken back."""

from levelroads.base.numbers import check_integers, is_integer, is_name
from levelroads.doing.doings import MAX_DOING, done, is_staying, turned
from levelroads.errors import InvalidCount, InvalidOperation, NothingToUndo, Refused, TooMany, UnknownName
from levelroads.symbol.symbols import Space, check_sum

MAX_SUMS = 6
MAX_PLEDGES = 10

# How many parts a pledge has, by its first one: this, one or two names, and with four parts a number between them.
_PARTS = {"closed": 2, "staying": 2, "same": 3, "turned": 3, "done": 4, "value": 4}


def is_pledge(value):
    """Whether a value is a pledge, whatever the bench."""
    if not isinstance(value, tuple) or len(value) < 2 or not isinstance(value[0], str) or value[0] not in _PARTS:
        return False
    if len(value) != _PARTS[value[0]] or not is_name(value[1]) or not is_name(value[-1]):
        return False
    return len(value) < 4 or is_integer(value[2])


def _holds(pledge, sums):
    """Whether a pledge holds for a dict from names to sums."""
    if pledge[1] not in sums or pledge[-1] not in sums:
        return False
    one, other = sums[pledge[1]], sums[pledge[-1]]
    if pledge[0] == "closed":
        return one.is_closed
    if pledge[0] == "staying":
        return is_staying(one)
    if pledge[0] == "same":
        return one == other
    if pledge[0] == "turned":
        return turned(one) == other
    if pledge[0] == "value":
        return one.scaled(pledge[2]) == other
    return 1 <= pledge[2] <= MAX_DOING and done(one, pledge[2]) == other


def _news(before, now):
    """The lines of one setup that another one has not, and the other way round."""
    gone = sorted([line for line in before.texts if line not in now.texts])
    come = sorted([line for line in now.texts if line not in before.texts])
    return tuple(gone), tuple(come)


class Setup:
    """What is on a bench at one time: the sums by ascending names, the pledges, and the lines. It never changes."""

    def __init__(self, level, sums, asked):
        self.sums = {name: sums[name] for name in sorted(sums)}
        self.asked = asked
        self.texts = (f"level {level}",) + tuple([f"sum {name}: {told}" for name, told in self.sums.items()])


class Trial:
    """A block behind which a bench is as it was when the block was entered."""

    def __init__(self, bench):
        self._bench = bench
        self._setup = None
        self._past = None
        self._future = None

    def __enter__(self):
        self._setup = self._bench._setup
        self._past = self._bench._past
        self._future = self._bench._future
        return self._bench

    def __exit__(self, kind, value, trace):
        bench = self._bench
        bench._setup = self._setup
        bench._past = self._past
        bench._future = self._future


class Bench:
    """A bench of a level."""

    def __init__(self, level):
        self._space = Space(level)
        self._setup = Setup(level, {}, ())
        # The setups ahead of this one and behind it. Trials and twins keep these lists: so they are never changed, but
        # replaced by new ones.
        self._past = []
        self._future = []

    @property
    def level(self):
        """The level."""
        return self._space.level

    @property
    def names(self):
        """The ascending tuple of all names."""
        return tuple(self._setup.sums)

    @property
    def lines(self):
        """The tuple of the lines."""
        return self._setup.texts

    @property
    def pledges(self):
        """The tuple of the pledges in the order of demands."""
        return self._setup.asked

    @property
    def changes(self):
        """The number of changes that can be taken back."""
        return len(self._past)

    def put(self, name, told):
        """Put a further sum on the bench."""
        self._check_new(name)
        check_sum(told)
        if told.level != self.level:
            raise InvalidOperation("the sum has the level of the bench")
        return self._with_further(name, told)

    def draw(self, name, one, other):
        """Put the path between two fractions on the bench."""
        self._check_new(name)
        return self._with_further(name, self._space.path(one, other))

    def blend(self, name, one, other, *, times=1):
        """Put one sum, and so many times another one, on the bench."""
        self._check_new(name)
        first, second = self.sum_named(one), self.sum_named(other)
        check_integers((times,))
        return self._with_further(name, first.plus(second.scaled(times)))

    def do(self, name, number):
        """Put what T_n, n being the number, makes of a sum in its place."""
        return self._with_sum(name, done(self.sum_named(name), number))

    def turn(self, name):
        """Put the turned sum in the place of a sum."""
        return self._with_sum(name, turned(self.sum_named(name)))

    def drop(self, name):
        """Take a sum from the bench."""
        self.sum_named(name)
        sums = {one: told for one, told in self._setup.sums.items() if one != name}
        return self._changed(sums, self.pledges)

    def rename(self, names):
        """Give new names to all sums, by a dict from the names that they have."""
        if not self._are_new_names(names):
            raise InvalidOperation("the names are a dict from the names on the bench to unlike names")
        return self._changed({names[one]: told for one, told in self._setup.sums.items()}, self.pledges)

    def demand(self, pledge):
        """Put a further pledge on the bench."""
        if not is_pledge(pledge) or pledge in self.pledges:
            raise InvalidOperation("a pledge that is demanded is not there yet")
        if len(self.pledges) == MAX_PLEDGES:
            raise TooMany(MAX_PLEDGES)
        return self._changed(self._setup.sums, self.pledges + (pledge,))

    def waive(self, pledge):
        """Take a pledge from the bench."""
        if not is_pledge(pledge) or pledge not in self.pledges:
            raise InvalidOperation("a pledge that is waived is there")
        return self._changed(self._setup.sums, tuple([one for one in self.pledges if one != pledge]))

    def undo(self, *, many=1):
        """Take back so many changes."""
        _check_many(many, len(self._past))
        return self._moved(len(self._past) - many)

    def redo(self, *, many=1):
        """Do so many changes again that were taken back."""
        _check_many(many, len(self._future))
        return self._moved(len(self._past) + many)

    def trial(self):
        """A block behind which the bench is as it was."""
        return Trial(self)

    def during(self, call):
        """What a call returns of the bench, which then is as it was."""
        with self.trial() as same:
            return call(same)

    def twin(self):
        """An independent copy."""
        other = Bench(self.level)
        other._setup = self._setup
        other._past = self._past
        other._future = self._future
        return other

    def sum_named(self, name):
        """The sum with a name."""
        if not is_name(name) or name not in self._setup.sums:
            raise UnknownName(name)
        return self._setup.sums[name]

    def _check_new(self, name):
        if not is_name(name) or name in self._setup.sums:
            raise InvalidOperation("a further sum has a name that no sum on the bench has")

    def _are_new_names(self, value):
        """Whether a value is a dict from just the names on the bench to unlike names."""
        if not isinstance(value, dict) or len(value) != len(self._setup.sums):
            return False
        if not all([name in value for name in self._setup.sums]) or not all([is_name(new) for new in value.values()]):
            return False
        return len({new for new in value.values()}) == len(value)

    def _with_further(self, name, told):
        if len(self._setup.sums) == MAX_SUMS:
            raise TooMany(MAX_SUMS)
        return self._with_sum(name, told)

    def _with_sum(self, name, told):
        sums = {one: same for one, same in self._setup.sums.items()}
        sums[name] = told
        return self._changed(sums, self.pledges)

    def _changed(self, sums, pledges):
        """Change the bench, if all pledges will hold, and tell the news."""
        before, now = self._setup, Setup(self.level, sums, pledges)
        for pledge in pledges:
            if not _holds(pledge, now.sums):
                raise Refused(pledge)
        self._past = self._past + [before]
        self._future = []
        self._setup = now
        return _news(before, now)

    def _moved(self, place):
        """Make the setup with a place among all of them the one that is there, and tell the news."""
        before = self._setup
        every = self._past + [before] + self._future
        self._past = every[:place]
        self._setup = every[place]
        self._future = every[place + 1:]
        return _news(before, self._setup)

    def __contains__(self, x):
        return (isinstance(x, str) and x in self._setup.texts) or (is_pledge(x) and x in self._setup.asked)

    def __len__(self):
        return len(self._setup.asked)

    def __iter__(self):
        return iter(self._setup.texts)

    def __eq__(self, other):
        if not isinstance(other, Bench) or self.level != other.level:
            return False
        return self._setup.sums == other._setup.sums and self._setup.asked == other._setup.asked

    def __str__(self):
        return f"bench of level {self.level} with {len(self._setup.sums)} sums, {len(self._setup.asked)} pledges"


def _check_many(many, most):
    """Refuse what is no number of changes, or more than there are."""
    if not is_integer(many) or many < 0:
        raise InvalidCount(many)
    if many > most:
        raise NothingToUndo(many)

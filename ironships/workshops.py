"""Workshops, which keep irons under names and wishes that always hold."""

from ironships.errors import Broken, InUse, InvalidIndex, InvalidName, InvalidWish, NothingToUndo, UnknownName
from ironships.irons import check_iron
from ironships.ratios import is_whole
from ironships.wishes import does_hold, is_name, is_wish


class Begun:
    """What a workshop was as a block of a trial began, and what the same trial had begun before that."""

    def __init__(self, shop, outer):
        self.irons = shop.irons
        self.made = shop.made
        # The workshop goes on to change its own list.
        self.past = list(shop.past)
        self.outer = outer


class Trial:
    """What a with statement takes: if its block ends with an exception, the workshop is as it was before."""

    def __init__(self, shop):
        self.shop = shop
        self.begun = None

    def __enter__(self):
        self.begun = Begun(self.shop, self.begun)
        return self.shop

    def __exit__(self, kind, value, trace):
        if kind is not None:
            self.shop.irons = self.begun.irons
            self.shop.made = self.begun.made
            self.shop.past = self.begun.past
        self.begun = self.begun.outer

    def __eq__(self, other):
        return self is other


class Workshop:
    """Irons under names, and wishes that hold after each change; changes can be taken back."""

    def __init__(self):
        # Neither the irons nor the wishes are ever changed in place: what is past refers to them.
        self.irons = {}
        self.made = ()
        self.past = []

    def __len__(self):
        return len(self.past)

    def __bool__(self):
        return True

    def __eq__(self, other):
        return self is other

    def __contains__(self, name):
        return isinstance(name, str) and name in self.irons

    @property
    def names(self):
        """The names, ascending."""
        return tuple(sorted(list(self.irons)))

    @property
    def wishes(self):
        """The wishes, in the order in which they were made."""
        return self.made

    def put(self, name, iron):
        """Puts an iron under a name, or another one in its place."""
        if not is_name(name):
            raise InvalidName(name)
        check_iron(iron)
        for index, wish in enumerate(self.made):
            if wish[1] == name and not does_hold(wish, iron):
                raise Broken(index)
        self._become({**self.irons, name: iron}, self.made)

    def drop(self, name):
        """Takes a name and its iron away."""
        self._check_known(name)
        for index, wish in enumerate(self.made):
            if wish[1] == name:
                raise InUse(index)
        self._become({each: self.irons[each] for each in self.irons if each != name}, self.made)

    def wish(self, wish):
        """Makes a wish, which holds from now on."""
        if not is_wish(wish):
            raise InvalidWish(wish)
        self._check_known(wish[1])
        if not does_hold(wish, self.irons[wish[1]]):
            raise Broken(len(self.made))
        self._become(self.irons, self.made + (wish,))

    def lift(self, index):
        """Takes a wish away."""
        if not is_whole(index) or index < 0 or index >= len(self.made):
            raise InvalidIndex(index)
        self._become(self.irons, self.made[:index] + self.made[index + 1:])

    def named(self, name):
        """The iron under a name."""
        self._check_known(name)
        return self.irons[name]

    def undo(self):
        """Takes back the last change that is not taken back yet."""
        if len(self.past) == 0:
            raise NothingToUndo()
        self.irons, self.made = self.past.pop()

    def trial(self):
        """What a with statement takes, so that its block changes nothing if it ends with an exception."""
        return Trial(self)

    def tried(self, action):
        """What a function returns that is called with the workshop within a trial."""
        with self.trial() as shop:
            return action(shop)

    def _check_known(self, name):
        """Refuses what is no name here."""
        if not isinstance(name, str) or name not in self.irons:
            raise UnknownName(name)

    def _become(self, irons, made):
        """Changes to these irons and wishes, so that it can be taken back."""
        self.past.append((self.irons, self.made))
        self.irons = irons
        self.made = made

"""Words, and spaces of stores, in which each name has a value."""

from evenpatch.errors import InvalidName, InvalidNames, InvalidStore, InvalidValues
from evenpatch.kinds import is_tuple_of, is_whole, is_within

LETTERS = "abcdefghijklmnopqrstuvwxyz"
LONGEST = 8
MOST_STORES = 6
TAKEN = ("and", "by", "call", "choose", "draw", "else", "if", "name", "net", "not", "or", "parties", "set", "spin",
         "unit", "while", "yes")


class Space:
    """The stores of one or two names with their sizes."""

    def __init__(self, names):
        if not is_names(names):
            raise InvalidNames(names)
        self.names = tuple(names)
        self._sizes = dict(self.names)
        self.never = stores_by(self.names)

    def __len__(self):
        return len(range(self.never))

    def __contains__(self, x):
        return isinstance(x, str) and x in self._sizes

    def __eq__(self, other):
        return isinstance(other, Space) and self.names == other.names

    def stores(self):
        """The ascending list of the stores."""
        return list(range(self.never))

    def values_of(self, store):
        """A dict from the names to their values in a store."""
        self._need_store(store)
        return self._values(store)

    def store_of(self, values):
        """The store in which the names have these values."""
        if not isinstance(values, dict) or len(values) != len(self.names):
            raise InvalidValues(values)
        for name, size in self.names:
            if not is_within(values.get(name), 0, size - 1):
                raise InvalidValues(values)
        return self._store(values)

    def size_of(self, name):
        """The size of a name."""
        self._need_name(name)
        return self._sizes[name]

    def value_of(self, store, name):
        """The value that a name has in a store."""
        self._need_store(store)
        self._need_name(name)
        return self._values(store)[name]

    def with_value(self, store, name, value):
        """The store in which a name has a value, modulo its size, and all else is as in a store."""
        self._need_store(store)
        self._need_name(name)
        if not is_whole(value):
            raise InvalidValues(value)
        values = self._values(store)
        values[name] = value % self._sizes[name]
        return self._store(values)

    def _values(self, store):
        values = {}
        weight = self.never
        left = store
        for name, size in self.names:
            weight = weight // size
            values[name] = left // weight
            left = left % weight
        return values

    def _store(self, values):
        store = 0
        for name, size in self.names:
            store = store * size + values[name]
        return store

    def _need_store(self, store):
        if not is_within(store, 0, self.never - 1):
            raise InvalidStore(store)

    def _need_name(self, name):
        if not isinstance(name, str) or name not in self._sizes:
            raise InvalidName(name)


def is_word(value):
    """Whether any value is a word."""
    if not isinstance(value, str) or not 1 <= len(value) <= LONGEST or value in TAKEN:
        return False
    return value.isascii() and value.isalpha() and value.islower()


def is_name_with_size(value):
    """Whether any value is a tuple of a word and an integer from 2 to 6."""
    return is_tuple_of(value, 2) and is_word(value[0]) and is_within(value[1], 2, MOST_STORES)


def is_names(value):
    """Whether any value is a list of names with sizes for a space."""
    if not isinstance(value, (list, tuple)) or not 1 <= len(value) <= 2:
        return False
    if not all([is_name_with_size(item) for item in value]):
        return False
    if len(value) == 2 and value[0][0] == value[1][0]:
        return False
    return stores_by(value) <= MOST_STORES


def stores_by(names):
    """How many stores names with these sizes have."""
    count = 1
    for _, size in names:
        count = count * size
    return count

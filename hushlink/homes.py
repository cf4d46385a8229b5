"""A home of a net: a disk, a store on it, and an end (points 210, 213 and 215)."""

from hushlink.disk import Disk
from hushlink.ends import End
from hushlink.options import whole_copy
from hushlink.store import Store, prepare

DEFAULT_LIMITS = (100, 0, 1000, 65536, 4)


def records_limit(options):
    """Return the limit of records of an end's options, as a tuple of this one number."""
    limits = options.get("limits", DEFAULT_LIMITS)
    return limits[2:3]


class Home:
    """What outlives a crash, and an end that does not."""

    def __init__(self, suite, seed, secret, names, named):
        """named has the keyword arguments of the end."""
        self.suite = suite
        self.own = whole_copy(secret)
        self.named = {word: whole_copy(worth) for word, worth in named.items()}
        self.disk = Disk()
        self.is_off = False
        prepare(suite, self.disk, seed, secret)
        store = Store(suite, self.disk)
        for name, key in names:
            store.keep_name(name, key)
        self.live = self.new_end(store)

    def new_end(self, store):
        """Return a new end of a store."""
        named = self.named
        return End(self.suite, store, **named)

    def begin_again(self):
        """Open the store anew, and make a new end of it."""
        self.live = self.new_end(Store(self.suite, self.disk))
        self.is_off = False

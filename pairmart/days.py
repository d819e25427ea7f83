"""Days: a market kept up round by round: askers come, leave and wish anew, rooms open, shut and change."""

from pairmart.errors import BadDeed, BadRoom, BadWish, NoSuch
from pairmart.markets import Market


def check_words(words):
    """Return words as a tuple; BadWish for one told twice."""
    found = tuple(words)
    if len(dict([(word, 1) for word in found])) != len(found):
        raise BadWish("a word is told twice")
    return found


def numbers_of(words, there):
    """Return the numbers of words among those that are there, the others left out."""
    numbers = {word: number for number, word in enumerate(there)}
    return [numbers[word] for word in words if word in numbers]


class Fair:
    """Askers' lists and rooms' orders by words, rooms' seats, who holds what, and how far each has asked."""

    def __init__(self):
        self.lists = {}
        self.orders = {}
        self.seats = {}
        self.held = {}
        self.next = {}
        self.asks = 0

    def likes(self, asker, room):
        """Tell whether both are there and list each other."""
        return room in self.lists.get(asker, ()) and asker in self.orders.get(room, ())

    def those_in(self, room):
        """Return the askers in a room, by the room's order."""
        return [asker for asker in self.orders.get(room, ()) if self.held.get(asker) == room]

    def match(self):
        """Return (asker, room or None) for all askers, in order."""
        return tuple([(asker, self.held[asker]) for asker in sorted(self.lists)])

    def ask(self, asker):
        """Let an asker ask the next room of its list; return who holds nothing by it, None for nobody."""
        room = self.lists[asker][self.next[asker]]
        self.next[asker] += 1
        self.asks += 1
        if not self.likes(asker, room):
            return asker
        self.held[asker] = room
        inside = self.those_in(room)
        if len(inside) <= self.seats[room]:
            return None
        self.held[inside[-1]] = None
        return inside[-1]

    def is_waiting(self, asker):
        """Tell whether an asker holds nothing and has somebody left to ask."""
        return self.held[asker] is None and self.next[asker] < len(self.lists[asker])

    def who_waits(self):
        """Return the askers who hold nothing and have somebody left to ask, in order."""
        return [asker for asker in sorted(self.lists) if self.is_waiting(asker)]

    def go_on(self):
        """Let askers ask until none wants to."""
        waiting = self.who_waits()
        for asker in waiting:
            # Whoever is refused asks at once: the order of asks changes neither what stands nor how many they are.
            free = asker
            while free is not None and self.is_waiting(free):
                free = self.ask(free)

    def part_of(self, askers, rooms):
        """Return the askers who hang together with some askers and rooms by lists that meet, in order."""
        found = {}
        passed = {}
        new_askers = [asker for asker in askers if asker in self.lists]
        new_rooms = list(rooms)
        while new_askers != [] or new_rooms != []:
            found.update({asker: True for asker in new_askers})
            passed.update({room: True for room in new_rooms})
            pairs = [(asker, room) for asker in new_askers for room in self.lists[asker]]
            backs = [(asker, room) for room in new_rooms for asker in self.orders.get(room, ())]
            new_rooms = [room for asker, room in pairs if room not in passed and self.likes(asker, room)]
            new_askers = [asker for asker, room in backs if asker not in found and self.likes(asker, room)]
        return sorted(found)

    def ask_anew(self, askers):
        """Let some askers ask from the top of their lists, as if they held nothing."""
        for asker in askers:
            self.held[asker] = None
            self.next[asker] = 0
        self.go_on()

    def told(self, before):
        """Return (asker, room before, room now) where they are not one, in order; None for who isn't there."""
        had = dict(before)
        askers = sorted(set(list(had)) | set(list(self.held)))
        return tuple([
            (asker, had.get(asker), self.held.get(asker))
            for asker in askers
            if had.get(asker) != self.held.get(asker)
        ])

    def come(self, asker, rooms):
        """Let an asker come with a list; return what changed; BadDeed for one who is there, BadWish."""
        if asker in self.lists:
            raise BadDeed("the asker is there")
        self.lists[asker] = check_words(rooms)
        before = dict(self.held)
        self.held[asker] = None
        self.next[asker] = 0
        self.go_on()
        return self.told(before)

    def leave(self, asker):
        """Let an asker leave; return what changed; NoSuch."""
        if asker not in self.lists:
            raise NoSuch("the asker isn't there")
        before = dict(self.held)
        part = self.part_of((asker,), ())
        del self.lists[asker]
        del self.held[asker]
        del self.next[asker]
        self.ask_anew([other for other in part if other != asker])
        return self.told(before)

    def wish(self, asker, rooms):
        """Give an asker another list; return what changed; NoSuch, BadWish."""
        if asker not in self.lists:
            raise NoSuch("the asker isn't there")
        order = check_words(rooms)
        before = dict(self.held)
        asked = self.next[asker]
        # As far as it has asked the list is the same: all its asks stand, and it only may have more of them left.
        if order[:asked] == self.lists[asker][:asked]:
            self.lists[asker] = order
            self.go_on()
            return self.told(before)
        part = self.part_of((asker,), ())
        self.lists[asker] = order
        self.ask_anew(sorted(set(part) | set(self.part_of((asker,), ()))))
        return self.told(before)

    def open_room(self, room, askers, count):
        """Open a room with an order and seats; return what changed; BadDeed for one that is open, BadWish, BadRoom."""
        if room in self.orders:
            raise BadDeed("the room is open")
        self.set_room(room, check_words(askers), count)
        before = dict(self.held)
        self.ask_anew(self.part_of((), (room,)))
        return self.told(before)

    def set_room(self, room, askers, count):
        """Set a room's order and seats; BadRoom below nought."""
        if count < 0:
            raise BadRoom("the seats are below nought")
        self.orders[room] = tuple(askers)
        self.seats[room] = count

    def shut_room(self, room):
        """Shut a room; return what changed; NoSuch."""
        if room not in self.orders:
            raise NoSuch("the room isn't open")
        before = dict(self.held)
        part = self.part_of((), (room,))
        del self.orders[room]
        del self.seats[room]
        self.ask_anew(part)
        return self.told(before)

    def change_room(self, room, askers, count):
        """Give a room another order and seats; return what changed; NoSuch, BadWish, BadRoom."""
        if room not in self.orders:
            raise NoSuch("the room isn't open")
        order = check_words(askers)
        before = dict(self.held)
        part = self.part_of((), (room,))
        self.set_room(room, order, count)
        self.ask_anew(sorted(set(part) | set(self.part_of((), (room,)))))
        return self.told(before)

    def names(self):
        """Return (askers, rooms) in order."""
        return (tuple(sorted(self.lists)), tuple(sorted(self.orders)))

    def as_market(self):
        """Return the market by numbers, askers and rooms in order of their words, those not there left out."""
        askers, rooms = self.names()
        lists = [numbers_of(self.lists[asker], rooms) for asker in askers]
        orders = [numbers_of(self.orders[room], askers) for room in rooms]
        return Market(lists, orders, [self.seats[room] for room in rooms])

    def by_numbers(self):
        """Return the matching by numbers, as as_market tells them."""
        rooms = self.names()[1]
        return tuple([rooms.index(room) if room is not None else None for _, room in self.match()])

    def shown(self):
        """Return (askers with lists, rooms with orders and seats), in order."""
        askers, rooms = self.names()
        return (
            tuple([(asker, self.lists[asker]) for asker in askers]),
            tuple([(room, self.orders[room], self.seats[room]) for room in rooms]),
        )

"""A plain model of a house, which does all folded and standing entries anew, and random steps for both."""

from models import bits_after, board_of, some_bits, some_flip
from paritycells.houses import House

HANDS = ["ann", "bob", "cy"]


class HouseModel:
    """Keeps every entry that the house ever had: those in rows, and those that were folded, in order."""

    def __init__(self, hands, bits):
        self.hands = list(hands)
        self.bits = bits
        self.rows = {}
        self.done = []
        self.horizon = -1
        self.heard = {hand: -1 for hand in hands}
        self.numbers = {hand: set() for hand in hands}

    def keep(self, stamp, flip, changes):
        self.rows[stamp] = (flip, changes % 2 == 0, changes)
        self.numbers[stamp[1]].add(stamp[2])

    def act(self, hand, flip, time):
        number = min(set(range(len(self.numbers[hand]) + 1)) - self.numbers[hand])
        stamp = (time, hand, number)
        self.keep(stamp, flip, 0)
        return stamp

    def switch(self, stamp):
        flip, stands, changes = self.rows[stamp]
        self.keep(stamp, flip, changes + 1)

    def receive(self, entries):
        """Return how many entries changed the model; none of them is refused."""
        changed = 0
        for stamp, flip, stands, changes in entries:
            if stamp not in self.rows or changes > self.rows[stamp][2]:
                self.keep(stamp, flip, changes)
                changed += 1
        return changed

    def hear(self, hand, time):
        self.heard[hand] = max(self.heard[hand], time)

    def fold(self, time):
        for stamp in sorted(self.rows):
            if stamp[0] <= time:
                flip, stands, changes = self.rows.pop(stamp)
                self.done += [flip] if stands else []
        self.horizon = time

    def standing(self, wanted=lambda stamp: True):
        return [self.rows[stamp][0] for stamp in sorted(self.rows) if self.rows[stamp][1] and wanted(stamp)]

    def deeds(self):
        """Return all flips that were folded and that stand, in order."""
        return self.done + self.standing()

    def base(self):
        return bits_after(self.bits, self.done)

    def now(self):
        return bits_after(self.bits, self.deeds())

    def entries(self):
        return [(stamp, *self.rows[stamp]) for stamp in sorted(self.rows)]


def new_house(chance, size, hands=HANDS):
    """Return a house without entries, and its model."""
    bits = some_bits(chance, size)
    return House(hands, board_of(bits)), HouseModel(hands, bits)


def some_entries(chance, model, many):
    """Return entry tuples that the model does not refuse, some of them known, some twice, in any order."""
    entries, flips = [], {stamp: model.rows[stamp][0] for stamp in model.rows}
    for index in range(many):
        stamp = (model.horizon + 1 + chance.randrange(8), chance.choice(model.hands), chance.randrange(9))
        if flips and chance.random() < 0.5:
            stamp = chance.choice(sorted(flips))
        flip = flips.setdefault(stamp, some_flip(chance, len(model.bits)))
        changes = chance.choice([0, 1, 2, 3, 7])
        entries.append((stamp, flip, changes % 2 == 0, changes))
    return entries


def one_step(chance, house, model):
    """Do one random step in the house and the model, and return both results."""
    action = chance.choice(["act", "act", "switch", "receive", "receive", "hear", "fold"])
    hand = chance.choice(model.hands)
    if action == "act":
        flip, time = some_flip(chance, len(model.bits)), model.horizon + 1 + chance.randrange(6)
        return house.act(hand, flip, time=time), model.act(hand, flip, time)
    if action == "switch" and model.rows:
        stamp = chance.choice(sorted(model.rows))
        call = house.remove if model.rows[stamp][1] else house.restore
        return call(stamp[1], stamp), model.switch(stamp)
    if action == "receive":
        entries = some_entries(chance, model, chance.choice([0, 1, 3, 6]))
        return house.receive(entries), model.receive(entries)
    if action == "fold" and chance.random() < 0.5:
        time = model.horizon + 1 + chance.randrange(3)
        for each in model.hands:
            house.hear(each, time=time)
            model.hear(each, time)
        return house.fold(time=time), model.fold(time)
    time = chance.randrange(model.horizon + 9)
    return house.hear(hand, time=time), model.hear(hand, time)


def some_house(chance, size, steps, hands=HANDS):
    """Return a house after as many random steps, and its model."""
    house, model = new_house(chance, size, hands)
    for index in range(steps):
        one_step(chance, house, model)
    return house, model

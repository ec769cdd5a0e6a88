"""Going along the ladder of a task with nested sights: what is won, and what bars the way."""

from holegates.tables import all_bits, told_in_twos


class Spot:
    """Rows at which the first holes of the ladder, so many as are told, have one view each."""

    # Signs of these holes are told by a number, the first one counting least. So the bits of an integer, at
    # these numbers, tell of many signs at once: won, which of them can be gone on with, and made, which of
    # them some right filling has here.

    def __init__(self, seen, rows, many):
        self.seen = seen
        self.rows = rows
        self.many = many
        self.further = []
        self.won = all_bits(many)
        self.made = 0

    def is_won(self, number):
        """Whether the signs of this number can be gone on with."""
        return (self.won >> number) & 1 == 1


class Climb:
    """A task along its ladder, which is the order of its holes: all spots, from the top where nothing is told."""

    def __init__(self, task, order):
        self.order = order
        self.numbers = _numbers_along(order)
        self.right = _right_along(task, self.numbers)
        self.ends = {}
        self.top = self._spot(task, None, list(range(task.many)), 0)
        self._make(self.top, self.top.won)

    def trap(self, spot, number):
        """What bars going on from the spot with signs that are not won: a tree, behind the last hole a row."""
        if not spot.further:
            return [row for row in spot.rows if self.is_wrong_at(row, number)][0]
        other = number + (1 << spot.many)
        lost = [later for later in spot.further if not later.is_won(number) and not later.is_won(other)][0]
        return (lost.seen, self.trap(lost, number), self.trap(lost, other))

    def is_wrong_at(self, row, number):
        """Whether the choice of these signs, one for each hole, is wrong at the row."""
        return (self.right[row] >> number) & 1 == 0

    def is_made_at(self, row, choice):
        """Whether some right filling makes the choice, told by its number as a setting, at the row."""
        return (self.ends[row].made >> self.numbers[choice]) & 1 == 1

    def _spot(self, task, seen, rows, many):
        spot = Spot(seen, rows, many)
        if many == len(self.order):
            for row in rows:
                self.ends[row] = spot
                spot.won = spot.won & self.right[row]
            return spot
        found = {}
        for row in rows:
            found.setdefault(task.views_at[row][self.order[many]], []).append(row)
        for view in sorted(found):
            later = self._spot(task, view, found[view], many + 1)
            # Of both signs of the next hole one that is won will do.
            spot.won = spot.won & (later.won | (later.won >> (1 << many)))
            spot.further.append(later)
        return spot

    def _make(self, spot, made):
        spot.made = made
        for later in spot.further:
            self._make(later, (made | (made << (1 << spot.many))) & later.won)


def _numbers_along(order):
    # The numbers that the signs of the choices have here, by those that they have as settings.
    return [
        told_in_twos([(choice >> (len(order) - 1 - hole)) & 1 for hole in reversed(order)])
        for choice in range(1 << len(order))
    ]


def _right_along(task, numbers):
    told = {}
    for right in task.right_at:
        if right not in told:
            told[right] = sum([1 << number for choice, number in enumerate(numbers) if (right >> choice) & 1])
    return [told[right] for right in task.right_at]

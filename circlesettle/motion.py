"""Amounts of a plain flat sheet on their way to a solution, and ranks that are made in rounds."""

from heapq import heapify, heappop, heappush

from circlesettle.flat import arcs_of, followers_of

UP = 1
DOWN = -1


class Motion:
    """Amounts of a plain flat sheet on their way up to the least solution, or down to the greatest one.

    The arcs in force at a cell are those on which its amount rests. On the way up these are one arc of
    "greatest", or all arcs of "least", or none for a cell that has not left the floor; on the way down one
    arc of "least", or all arcs of "greatest", or none for a cell that is still endless. Arcs in force whose
    values are just the amounts form no circle among cells that move, so these can go at once as far as the
    other arcs, or the floor, let them; a cell that nothing stops on its way up is endless.
    """

    def __init__(self, plain, x, way):
        self.x = x
        self.way = way
        self.words = [formula[0] for formula in plain]
        self.arcs = [arcs_of(plain, cell) for cell in range(len(plain))]
        self.force = [[] for _ in plain]
        self.followers = followers_of([[target for target, _ in arcs] for arcs in self.arcs])

    def gap(self, cell, arc):
        """How far the value of the arc, without the floor, is ahead of the amount of the cell; None for endless."""
        target, shift = arc
        if self.x[target] is None:
            return None
        return self.way * (self.x[target] + shift - self.x[cell])

    def followers_of_all(self, cells):
        """The list of the cells that have an arc to one of these cells, each once."""
        return list({follower: True for cell in cells for follower in self.followers[cell]})

    def move(self, starts):
        """Move these cells, whose arcs in force have new values, and all that must follow; return all that moved."""
        moving = self.carried(starts)
        distances = self.distances(moving)
        for cell in moving:
            self.x[cell] = self.x[cell] + self.way * distances[cell] if cell in distances else None
        return list(moving)

    def carried(self, starts):
        """A dict of these cells and of all cells that must move with them."""
        moving = {cell: True for cell in starts}
        waiting = list(starts)
        while waiting:
            moved = waiting.pop()
            for cell in self.followers[moved]:
                if cell not in moving and self.rests_on(cell, moving):
                    moving[cell] = True
                    waiting.append(cell)
        return moving

    def rests_on(self, cell, moving):
        """True if all arcs that keep the amount of the cell lead to cells that move, otherwise False."""
        # No arc keeps an endless cell, or one that the floor alone keeps.
        keeping = [arc[0] in moving for arc in self.force[cell] if self.gap(cell, arc) == 0]
        return bool(keeping) and all(keeping)

    def distances(self, moving):
        """A dict of how far the moving cells go; those that nothing stops are missing."""
        behind = {cell: [] for cell in moving}
        queue = []
        for cell in moving:
            if self.way == DOWN:
                # The floor stops every cell.
                queue.append((self.x[cell], cell))
            for arc in self.force[cell]:
                distance = self.gap(cell, arc)
                if arc[0] in moving:
                    behind[arc[0]].append((cell, distance))
                elif distance is not None:
                    queue.append((distance, cell))
        return shortest(behind, queue)


def shortest(behind, queue):
    """A dict of the least distances, where the queue tells where ways begin, and `behind` how they go on."""
    heapify(queue)
    found = {}
    while queue:
        distance, cell = heappop(queue)
        if cell not in found:
            found[cell] = distance
            for other, further in behind[cell]:
                if other not in found:
                    heappush(queue, (distance + further, other))
    return found


def risen(plain):
    """The motion of the plain flat sheet that has come up to its least solution."""
    x = [formula[1] if formula[0] == "amount" else 0 for formula in plain]
    motion = Motion(plain, x, UP)
    rise(motion, list(range(len(plain))))
    return motion


def rise(motion, cells):
    """Go up to the least solution, where no cells but these have values above their amounts."""
    while cells:
        moved = motion.move(raised(motion, cells))
        cells = motion.followers_of_all(moved)


def raised(motion, cells):
    """The list of those of these cells whose values are above their amounts; their arcs in force are put in place."""
    starts = []
    for cell in cells:
        arcs = raising_arcs(motion, cell)
        if arcs:
            motion.force[cell] = arcs
            starts.append(cell)
    return starts


def raising_arcs(motion, cell):
    """The arcs by which the value of the cell is above its amount; none if it is not."""
    if motion.x[cell] is None:
        return []
    arcs = motion.arcs[cell]
    gaps = [motion.gap(cell, arc) for arc in arcs]
    if motion.words[cell] == "least":
        return arcs if all([gap is None or gap > 0 for gap in gaps]) else []
    if None in gaps:
        return [arcs[gaps.index(None)]]
    most = max(gaps, default=0)
    return [arcs[gaps.index(most)]] if most > 0 else []


def ranks_in_rounds(count, firsts, waits):
    """The ranks of `count` cells, made in rounds: 0 for the first ones, None for those that get none.

    `waits` has for each other cell that may get a rank a tuple of a number and a list of cells: it gets
    its rank in the first round before which so many of the cells in the list have ranks.
    """
    ranks = [None] * count
    left = {cell: many for cell, (many, _) in waits.items()}
    waiting = [[] for _ in range(count)]
    for cell, (_, targets) in waits.items():
        for target in targets:
            waiting[target].append(cell)
    rank = 0
    latest = firsts
    further = [cell for cell in left if left[cell] == 0]
    while latest or further:
        for cell in latest:
            ranks[cell] = rank
            for other in waiting[cell]:
                left[other] -= 1
                if left[other] == 0:
                    further.append(other)
        rank += 1
        latest, further = further, []
    return ranks

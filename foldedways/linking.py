"""Why points of petals are identified, and how words are made of the given words. Nothing is checked here."""

from foldedways.folding import petals_of
from foldedways.letters import backwards, folded, opposite
from foldedways.steps import needed_steps, turned, without_opposites


class Linking:
    """The points of some given words, and a link for each time that two of them are identified.

    The label of a point is the word that leads to it from 0 along its petal. The
    value of a link from one point to another one is the label of the one, joined
    with the inverse of the label of the other one: a word that belongs.
    """

    def __init__(self, given):
        edges, ends = petals_of(given)
        self.labels = labels_of(given)
        self.moves = edges + [(end, opposite(letter), start) for start, letter, end in edges]
        self.sizes = [1] * len(self.labels)
        self.links = {}
        self.steps = []
        for number, end in enumerate(ends):
            self.unite(end, 0, [("given", number, 1)])
        before = -1
        while before != len(self.links):
            before = len(self.links)
            self.fold_once()

    def climb(self, point):
        """Return the point to which the links lead from a point in the end, and the factors on this way."""
        top = point
        factors = []
        while top in self.links:
            top, more = self.links[top]
            factors = factors + more
        return top, factors

    def between(self, one, other):
        """Return the factors of the way from one point to another one that is identified with it."""
        _, up = self.climb(one)
        _, down = self.climb(other)
        return without_opposites(up + turned(down))

    def fold_once(self):
        """Compare once which points are before and behind equal letters, and unite those that have to be equal."""
        leads = {}
        for place, letter, goal in self.moves:
            key = (self.climb(place)[0], letter)
            if key in leads:
                other, beside = leads[key]
                # The labels grow by the same letter, so the way between them stays the same.
                self.unite(goal, beside, self.between(place, other))
            else:
                leads[key] = (place, goal)

    def unite(self, one, other, factors):
        """Identify two points, with the factors of a way from one to the other, and all that are linked with them."""
        low, up = self.climb(one)
        high, down = self.climb(other)
        if low == high:
            return
        way = without_opposites(turned(up) + factors + down)
        # Links lead from smaller classes to greater ones, so that no way becomes long.
        if self.sizes[low] > self.sizes[high]:
            low, high, way = high, low, turned(way)
        self.sizes[high] += self.sizes[low]
        self.links[low] = (high, self.told(low, high, way))

    def told(self, low, high, way):
        """Return the factors of a new link: those of its way, or a new step made of them if there are several."""
        if len(way) < 2:
            return way
        self.steps.append((folded(self.labels[low] + backwards(self.labels[high])), way))
        return [("step", len(self.steps) - 1, 1)]

    def factors_along(self, word):
        """Return factors that make the reduced word, or None if it does not lead from 0 to 0."""
        tops = [self.climb(point)[0] for point in range(len(self.labels))]
        leads = {}
        for place, letter, goal in self.moves:
            leads.setdefault((tops[place], letter), []).append((place, goal))
        point = 0
        factors = []
        for letter in word:
            ways = [(self.between(point, place), goal) for place, goal in leads.get((tops[point], letter), [])]
            if not ways:
                return None
            more, point = min(ways, key=how_long)
            factors += more
        if tops[point] != tops[0]:
            return None
        return without_opposites(factors + self.between(point, 0))


def labels_of(given):
    """Return the labels of the points of the given words."""
    labels = [""]
    for word in given:
        whole = folded(word)
        labels += [whole[:many + 1] for many in range(len(whole))]
    return labels


def how_long(way):
    """Return how many factors a way has."""
    return len(way[0])


def derived(given, word):
    """Return steps that make the reduced word of the given words, or None if it cannot be made."""
    linking = Linking(given)
    factors = linking.factors_along(word)
    if factors is None:
        return None
    return needed_steps(linking.steps + [(word, factors)])

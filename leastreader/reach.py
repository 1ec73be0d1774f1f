"""Reach: how far back anything that is to come can look."""

from leastreader.letters import check_size
from leastreader.telling import told_count


def steps_from(controls, number):
    """The triples (step, number behind, letters told) of all steps that a walk can take at the control."""
    found = [(word, behind, told_count(plain)) for word, plain, behind in controls.links(number)]
    if controls.fmt.restarts:
        found.append(("restart", 0, 0))
    return found


def farthest_copies(controls):
    """For each control the word of a copy of the greatest distance there, and this distance; ("", 0) for none."""
    found = []
    for number in range(len(controls)):
        best = ("", 0)
        for word, plain, _ in controls.links(number):
            if plain[0] == "copy" and plain[1] > best[1]:
                best = (word, plain[1])
        found.append(best)
    return found


def pulls_at(steps):
    """For each control behind one of the steps the fewest letters that are told on the way."""
    found = {}
    for _, behind, told in steps:
        found[behind] = min(told, found.get(behind, told))
    return found


def least_reaches(steps, farthest):
    """The reaches: the least integers that satisfy what is demanded of them."""
    found = [best[1] for best in farthest]
    pulls = [pulls_at(part) for part in steps]
    changed = True
    while changed:
        changed = False
        for number, pull in enumerate(pulls):
            least = max([found[behind] - told for behind, told in pull.items()], default=0)
            if least > found[number]:
                found[number] = least
                changed = True
    return found


def first_leads(steps, farthest, reaches):
    """For each control with a reach the first step of a shortest walk that shows it, and the number behind it.

    The number behind the last step of a walk does not matter and is None.
    """
    leads = {}
    for number, best in enumerate(farthest):
        if best[1] > 0 and best[1] == reaches[number]:
            leads[number] = (best[0], None)
    wanting = [number for number in range(len(reaches)) if reaches[number] > 0 and number not in leads]
    while len(wanting) > 0:
        more = {}
        for number in wanting:
            for step, behind, told in steps[number]:
                # Along a walk that shows the reach no step may lose a letter of it.
                if behind in leads and reaches[behind] - told == reaches[number]:
                    more.setdefault(number, (step, behind))
        leads.update(more)
        wanting = [number for number in wanting if number not in leads]
    return leads


class Reach:
    """The reaches of the reached controls."""

    def __init__(self, controls):
        self._controls = controls
        steps = [steps_from(controls, number) for number in range(len(controls))]
        farthest = farthest_copies(controls)
        self._reaches = least_reaches(steps, farthest)
        self._leads = first_leads(steps, farthest, self._reaches)

    @property
    def controls(self):
        """The controls."""
        return self._controls

    def of(self, number):
        """The reach of the control."""
        return self._reaches[self._controls.check_number(number)]

    def walk(self, number):
        """A shortest walk whose last word copies from the distance that the reach is, counted from the control."""
        steps = []
        now = self._controls.check_number(number)
        while now in self._leads:
            step, now = self._leads[now]
            steps.append(step)
        return steps

    def noticed(self, number, place):
        """A walk whose last word first outputs the letter at the place, or None if it is beyond the reach."""
        far = self.of(number)
        check_size(place, 1, self._controls.fmt.width)
        if place > far:
            return None
        if number == self._controls.ended_number():
            return ["restart"] + self.noticed(0, place)
        return [self.letter_word(number)] * (far - place) + self.walk(number)

    def letter_word(self, number):
        """The first word of a letter at a control other than ENDED."""
        return [word for word, plain, _ in self._controls.links(number) if plain[0] == "letter"][0]

    def depth(self, number, begun):
        """The depth of the standing of the control and the begun word."""
        rests = self._controls.rests(number, begun)
        if begun == "":
            return self._reaches[number]
        found = self._reaches[0] if self._controls.fmt.restarts else 0
        for rest in rests:
            plain, behind = self._controls.link(number, begun + rest)
            found = max(found, self._reaches[behind] - told_count(plain))
        return found

    def places(self, number, begun):
        """The places of the standing, ascending."""
        depth = self.depth(number, begun)
        found = list(range(1, depth + 1))
        if begun == "":
            return found
        for rest in self._controls.rests(number, begun):
            plain = self._controls.token(number, begun + rest)
            if plain[0] == "copy":
                found.extend(list(range(max(1, plain[1] - plain[2] + 1), plain[1] + 1)))
        return sorted(set(found))

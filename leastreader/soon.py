"""Soon: the fewest deeds until a place of the window is output."""

from heapq import heappop, heappush

from leastreader.classes import classes_of
from leastreader.controls import controls_of
from leastreader.letters import check_size
from leastreader.noticing import copies_place, step_deeds
from leastreader.states import check_standing
from leastreader.telling import told_count

# What a restart and a loss, which both lead to the start, add to the places.
FRESH_STEPS = (("restart", 0), ("loss", 1))


def hits_at(controls, number):
    """For each place that a copy at the control outputs the length of the shortest word that does, and this word."""
    found = {}
    for word, plain, _ in controls.links(number):
        if plain[0] == "copy":
            for place in range(max(1, plain[1] - plain[2] + 1), plain[1] + 1):
                found[place] = min(found.get(place, (len(word), word)), (len(word), word))
    return found


def costs_at(controls, number):
    """For each pair (number behind, letters told) of the steps at the control the fewest deeds, and such a step."""
    found = {}
    for word, plain, behind in controls.links(number):
        key = (behind, told_count(plain))
        found[key] = min(found.get(key, (len(word), word)), (len(word), word))
    if controls.fmt.restarts:
        for deed, told in FRESH_STEPS:
            found[(0, told)] = (1, deed)
    return found


def steps_ahead(controls):
    """For each control the steps that lead to it: tuples (number ahead, letters told, deeds, step)."""
    found = [[] for _ in range(len(controls))]
    for number in range(len(controls)):
        for (behind, told), (cost, step) in costs_at(controls, number).items():
            found[behind].append((number, told, cost, step))
    return found


def fewest_deeds(controls):
    """For each pair (number, place) that some stream outputs a lead.

    A lead is (fewest deeds, first step, the pair behind this step or None if the step itself outputs the place).
    """
    leads = {}
    queue = []
    for number in range(len(controls)):
        for place, (cost, word) in hits_at(controls, number).items():
            leads[(number, place)] = (cost, word, None)
            heappush(queue, (cost, number, place))
    ahead = steps_ahead(controls)
    while len(queue) > 0:
        cost, number, place = heappop(queue)
        # A pair that was put into the queue again with fewer deeds has been taken already.
        steps = ahead[number] if leads[(number, place)][0] == cost else []
        for before, told, more, step in steps:
            pair = (before, place - told)
            if told < place and (pair not in leads or cost + more < leads[pair][0]):
                leads[pair] = (cost + more, step, (number, place))
                heappush(queue, (cost + more, before, place - told))
    return leads


class Soon:
    """The fewest deeds until a place is output, from each standing of a format."""

    def __init__(self, fmt):
        self._controls = controls_of(fmt)
        self._leads = fewest_deeds(self._controls)

    def spot(self, standing):
        """The number of the control and the bits begun of a standing."""
        control, begun = check_standing(self._controls, standing)
        return (self._controls.number_of(control), begun)

    def check_place(self, place):
        """Returns the place; raises BadSize."""
        return check_size(place, 1, self._controls.fmt.width)

    def behind_begun(self, number, begun, place):
        """The leads of all rests of bits begun, of a restart and of a loss."""
        found = []
        steps = list(FRESH_STEPS) if self._controls.fmt.restarts else []
        pairs = [(step, 1, (0, place + told)) for step, told in steps]
        for rest in self._controls.rests(number, begun):
            plain, behind = self._controls.link(number, begun + rest)
            if copies_place(plain, place):
                found.append((len(rest), rest, None))
            pairs.append((rest, len(rest), (behind, place + told_count(plain))))
        for step, cost, pair in pairs:
            if pair in self._leads:
                found.append((cost + self._leads[pair][0], step, pair))
        return found

    def lead_of(self, number, begun, place):
        """The lead from a standing to a place, or None."""
        if begun == "":
            return self._leads.get((number, place))
        return min(self.behind_begun(number, begun, place), key=lambda lead: lead[0], default=None)

    def count_of(self, number, begun, place):
        """The fewest deeds from a standing that output a place, or None."""
        lead = self.lead_of(number, begun, place)
        return None if lead is None else lead[0]

    def of(self, number, place):
        """The fewest deeds from the control that output the place, or None."""
        return self.count_of(self._controls.check_number(number), "", self.check_place(place))

    def from_standing(self, standing, place):
        """The fewest deeds from the standing that output the place, or None."""
        number, begun = self.spot(standing)
        return self.count_of(number, begun, self.check_place(place))

    def by_place(self, standing):
        """The fewest deeds for each place, in their order."""
        number, begun = self.spot(standing)
        return [self.count_of(number, begun, place) for place in range(1, self._controls.fmt.width + 1)]

    def stream(self, standing, place):
        """A stream of the fewest deeds that outputs the place at its last deed, or None."""
        number, begun = self.spot(standing)
        lead = self.lead_of(number, begun, self.check_place(place))
        if lead is None:
            return None
        steps = [lead[1]]
        while lead[2] is not None:
            lead = self._leads[lead[2]]
            steps.append(lead[1])
        return stream_deeds(steps)

    def horizon(self, standing):
        """The number of deeds within which all places of the standing are noticed."""
        return max([count for count in self.by_place(standing) if count is not None], default=0)


def stream_deeds(steps):
    """The deeds of steps, among which there may be losses, too."""
    deeds = []
    for step in steps:
        deeds.extend([step] if step == "loss" else step_deeds([step]))
    return deeds


def soon_of(fmt):
    """The fewest deeds of the format, worked out when they are needed for the first time."""
    known = classes_of(fmt).known
    if "soon" not in known:
        known["soon"] = Soon(fmt)
    return known["soon"]

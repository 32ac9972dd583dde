"""Part 2: tubes, what is taken from them, and where they stand."""

from wholelab.refusals import ALREADY, FULL, NOT_AS_TOLD, NO_SUCH, TOO_LITTLE

MOST_TUBES = 256
LAST_RACK = 15
LAST_PLACE = 95
NOWHERE = -1
LEFT_MODULUS = 2147483648


def spot_of(rack, place):
    """One number for a rack and a place in it; NOWHERE if there are no such."""
    if rack > LAST_RACK or place > LAST_PLACE:
        return NOWHERE
    return rack * (LAST_PLACE + 1) + place


class Tube:
    """A tube; origin is the number of the sample that all in it was taken from."""

    def __init__(self, patient, origin, depth, left):
        self.patient = patient
        self.origin = origin
        self.depth = depth
        self.left = left
        self.spot = NOWHERE
        # Of the whole sample, so it grows in a tube that came with one alone.
        self.used = 0


class Tubes:
    """All tubes, each at its number."""

    def __init__(self):
        self.tubes = []

    def start(self):
        self.tubes = []
        return 0

    def sample(self, patient, volume):
        if volume == 0:
            return NOT_AS_TOLD
        if self.is_full():
            return FULL
        return self.add(Tube(patient, len(self.tubes), 0, volume))

    def take(self, number, volume):
        refusal = self.refusal_to_draw(number, volume)
        if refusal != 0:
            return refusal
        if self.is_full():
            return FULL
        tube = self.tubes[number]
        tube.left = tube.left - volume
        return self.add(Tube(tube.patient, tube.origin, tube.depth + 1, volume))

    def use(self, number, volume):
        refusal = self.refusal_to_draw(number, volume)
        if refusal != 0:
            return refusal
        tube = self.tubes[number]
        tube.left = tube.left - volume
        origin = self.tubes[tube.origin]
        origin.used = origin.used + volume
        return tube.left % LEFT_MODULUS

    def put(self, number, rack, place):
        spot = spot_of(rack, place)
        if spot == NOWHERE:
            return NOT_AS_TOLD
        if not self.has(number):
            return NO_SUCH
        standing = self.standing_at(spot)
        if standing != NO_SUCH and standing != number:
            return ALREADY
        tube = self.tubes[number]
        tube.spot = spot
        return 0

    def at(self, rack, place):
        spot = spot_of(rack, place)
        if spot == NOWHERE:
            return NOT_AS_TOLD
        return self.standing_at(spot)

    def of(self, number):
        """A list, as this is more than one number where it is no refusal."""
        if not self.has(number):
            return [NO_SUCH]
        tube = self.tubes[number]
        return [0, tube.patient, tube.origin, tube.left, tube.depth]

    def sum_of(self, number):
        """Of a sample: how many tubes, how much is left in all of them, how much was used; a list, as of's is."""
        if not self.has(number):
            return [NO_SUCH]
        sample_tube = self.tubes[number]
        if sample_tube.origin != number:
            return [NO_SUCH]
        left = [tube.left for tube in self.tubes if tube.origin == number]
        return [len(left), sum(left), sample_tube.used]

    def has(self, number):
        return number < len(self.tubes)

    def is_full(self):
        return len(self.tubes) >= MOST_TUBES

    def add(self, tube):
        self.tubes.append(tube)
        return len(self.tubes) - 1

    def refusal_to_draw(self, number, volume):
        """Why so much can't come out of the tube; 0 if it can."""
        if volume == 0:
            return NOT_AS_TOLD
        if not self.has(number):
            return NO_SUCH
        tube = self.tubes[number]
        if tube.left < volume:
            return TOO_LITTLE
        return 0

    def standing_at(self, spot):
        # A tube's spot is all that is kept of where it stands: nothing can disagree with it.
        for number, tube in enumerate(self.tubes):
            if tube.spot == spot:
                return number
        return NO_SUCH

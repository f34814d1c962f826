"""The machine between two lines: where it is, and what stays told."""

# Words count in ten thousandths, lengths in hundred thousandths of a
# millimetre: so both units are whole, and every length is exact.
MILLIMETRES = 10
INCHES = 254

HOLES = (81, 82, 83)


class Machine:
    def __init__(self):
        self.place = (0, 0, 0)
        self.origins = [(0, 0, 0), (0, 0, 0), (0, 0, 0), (0, 0, 0), (0, 0, 0), (0, 0, 0)]
        self.origin = 0
        self.put_off = (0, 0, 0)
        self.motion = 0
        self.plane = 17
        self.unit = MILLIMETRES
        self.steps = False
        self.feed = 0
        self.begin_holes()

    def begin_holes(self):
        self.height = self.place[2]
        self.level = None
        self.depth = None
        self.peck = None
        self.wait = 0

    def twin(self):
        other = Machine()
        other.place = self.place
        other.origins = list(self.origins)
        other.origin = self.origin
        other.put_off = self.put_off
        other.motion = self.motion
        other.plane = self.plane
        other.unit = self.unit
        other.steps = self.steps
        other.feed = self.feed
        other.height = self.height
        other.level = self.level
        other.depth = self.depth
        other.peck = self.peck
        other.wait = self.wait
        return other

    def length(self, number):
        return number * self.unit

    def program_zero(self, axis):
        return self.origins[self.origin][axis] + self.put_off[axis]

"""One object of the calls: the world as it is now, and what can be taken back and done again."""

from noasking.refusals import NONE_SUCH

MOST_TAKEN_BACK = 10


class History:
    """Not begun while its world is None. A world that is kept here is never changed again."""

    def __init__(self):
        self.world = None
        self.past = []
        self.undone = []

    def start_with(self, world):
        self.world = world
        self.past = []
        self.undone = []

    def go_on_with(self, world):
        # What was taken back led on from another world than this one, so it can't be done again.
        self.undone = []
        self.past.append(self.world)
        if len(self.past) > MOST_TAKEN_BACK:
            self.past.pop(0)
        self.world = world

    def take_back(self):
        if self.past == []:
            return NONE_SUCH
        self.undone.append(self.world)
        self.world = self.past.pop()
        return len(self.past)

    def do_again(self):
        if self.undone == []:
            return NONE_SUCH
        self.past.append(self.world)
        self.world = self.undone.pop()
        return len(self.undone)

"""What one line of calls works on: the stations, and what can be taken back."""

MOST_CHANGES = 10


class Board:
    def __init__(self):
        self.begun = False
        self.stations = ()
        self.past = ()

    def begin(self):
        self.begun = True
        self.stations = ()
        self.past = ()

    # Tuples of stations that never change: the earlier ones stay as they were without a copy.
    def change_to(self, stations):
        past = self.past + (self.stations,)
        self.past = past[-MOST_CHANGES:]
        self.stations = stations

    # There is a change to take back; what is taken back is not kept, for it is no change itself.
    def take_back(self):
        self.stations = self.past[-1]
        self.past = self.past[:-1]

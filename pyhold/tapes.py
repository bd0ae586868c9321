"""Tapes: runs that can be taken forward and back."""

from pyhold.data import copied_data
from pyhold.runs import check_count, give_reply

# So many runs at places are kept at the most, and so many moves lie between them at first.
MOST_MARKS = 32
FIRST_DISTANCE = 256


class Tape:
    """A run at a place that can be moved, and the replies that it was given at places."""

    def __init__(self, run):
        self._present = run.twin()
        self._place = 0
        self._end = 0
        self._replies = {}
        # Pairs of a place and the run there, so that a way back need not begin at the place 0.
        self._marks = [(0, run.twin())]
        self._distance = FIRST_DISTANCE

    def position(self):
        """The place."""
        return self._place

    def end(self):
        """The greatest place that was reached, as far as no other reply was given ahead of it."""
        return self._end

    def run(self):
        """A twin of the run at the place."""
        return self._present.twin()

    def forward(self, many):
        """Makes at most so many moves; gives the state, and how many were made."""
        check_count(many)
        made = 0
        while made < many and self._move():
            made += 1
        return (self._present.state(), made)

    def back(self, many):
        """Goes so many places back, but not ahead of the beginning; gives the place."""
        check_count(many)
        place = max(0, self._place - many)
        marks = [mark for mark in self._marks if mark[0] <= place]
        self._place, nearest = marks[-1]
        self._present = nearest.twin()
        while self._place < place:
            self._move()
        return place

    def answer(self, data):
        """Lets the function of the host that is asked for give data."""
        self._present.answer(data)
        # The host may change its lists afterwards, but the reply stays what it was.
        self._keep(("answer", copied_data(data)))

    def refuse(self, kind, message):
        """Lets the function of the host that is asked for raise an exception."""
        self._present.refuse(kind, message)
        self._keep(("refuse", kind, message))

    def _keep(self, reply):
        """Notes a reply that was given at the place, in place of all that came from here on."""
        place = self._place
        self._replies = {at: other for at, other in self._replies.items() if at < place}
        self._replies[place] = reply
        self._marks = [mark for mark in self._marks if mark[0] <= place]
        self._place = place + 1
        self._end = place + 1

    def _move(self):
        """Makes a move, and tells if there was one to make."""
        if self._place in self._replies:
            give_reply(self._present, self._replies[self._place])
        elif self._present.go(1)[1] == 0:
            return False
        self._place += 1
        self._end = max(self._end, self._place)
        self._mark()
        return True

    def _mark(self):
        """Keeps the run at the place, if it is far enough behind the others that are kept."""
        if self._place < self._marks[-1][0] + self._distance:
            return
        self._marks.append((self._place, self._present.twin()))
        if len(self._marks) > MOST_MARKS:
            self._marks = self._marks[::2]
            self._distance *= 2

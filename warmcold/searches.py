"""A search kept, stand by stand."""

from warmcold.checks import check_answer, check_length, check_place
from warmcold.errors import Never, NothingLeft, NotNow
from warmcold.paths import answer_to_move


class Search:
    """Stands on a path and the answers to them, as many as one likes."""

    def __init__(self, length):
        check_length(length)
        self.length = length
        self.stood = []
        self.words = []
        # What was left ahead of all answers and behind each of them, so that an
        # answer is judged, and taken back, without going through all stands again.
        self.left = [tuple(range(1, length + 1))]

    def stand(self, place):
        """One goes on to this place."""
        check_place(place, self.length)
        if self.waits():
            raise NotNow("the last stand has not been answered yet")
        self.stood.append(place)

    def answer(self, word):
        """The last stand is answered."""
        check_answer(word)
        if not self.waits():
            raise NotNow("no stand waits for an answer")
        earlier, later = self.stood[-2:]
        still = [place for place in self.left[-1] if answer_to_move(place, earlier, later) == word]
        if not still:
            raise Never("the thing could lie nowhere then")
        self.words.append(word)
        self.left.append(tuple(still))

    def back(self):
        """What was done last, a stand or an answer, is taken back."""
        if not self.stood:
            raise NothingLeft("nothing was done that is not taken back")
        # Behind an answered stand the answer was last; the first stand has none.
        if self.waits() or len(self.stood) == 1:
            self.stood.pop()
        else:
            self.words.pop()
            self.left.pop()

    def stands(self):
        """All stands, the first one first."""
        return list(self.stood)

    def answers(self):
        """All answers, the first one first."""
        return list(self.words)

    def can_lie(self):
        """All places at which the thing can lie by the answers given, rising."""
        return self.left[-1]

    def waits(self):
        """Whether an answer is to be given now."""
        return len(self.stood) > len(self.words) + 1

    def __len__(self):
        return len(self.stood)

    def __eq__(self, other):
        return (
            isinstance(other, Search)
            and self.length == other.length
            and self.stood == other.stood
            and self.words == other.words
        )

"""Fillings: a sheet while it is filled in, in whatever order one can."""

from skiphall.answers import is_answer
from skiphall.errors import NoBack, NoFit, NotAsked
from skiphall.walks import walked


class Filling:
    """A sheet that keeps what was put at its spots, asked by then or not."""

    def __init__(self, form):
        self.form = form
        self.answers = {}
        self.deeds = []

    def walk(self):
        """Tell the Walk by what is kept."""
        return walked(self.form, self.answers)

    def put(self, spot, answer):
        """Keep an answer at a spot that is asked by now."""
        if spot not in self.walk().asked:
            raise NotAsked(spot)
        name, k = spot
        if not is_answer(self.form.question(name), answer):
            raise NoFit(name)
        self.remember(spot)
        self.answers[spot] = answer

    def clear(self, spot):
        """Take out what is kept at a spot, asked or not."""
        if spot not in self.answers:
            raise NotAsked(spot)
        self.remember(spot)
        del self.answers[spot]

    def kept(self):
        """Tell all that is kept, sorted, so that the order of the putting is not told."""
        return {spot: self.answers[spot] for spot in sorted(self.answers)}

    def back(self):
        """Take the last put or clear back."""
        if len(self.deeds) == 0:
            raise NoBack()
        spot, earlier = self.deeds.pop()
        if earlier is None:
            del self.answers[spot]
        else:
            self.answers[spot] = earlier

    def remember(self, spot):
        """Note what is kept at a spot ahead of a deed; no answer of a question is None."""
        self.deeds.append((spot, self.answers.get(spot)))

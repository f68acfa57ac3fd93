"""Boxes: what came, in whatever order, and what of it counts."""

from skiphall.editions import led_over
from skiphall.errors import BadCount, NoEdition, NoEvent, Unlike
from skiphall.names import refuse_no_name
from skiphall.walks import walked

# The words of the events, and how many parts each has.
EVENT_PARTS = {"edition": 2, "sheet": 5, "back": 3}


class Box:
    """The unlike events that came, each by a key that all events alike to it have.

    A key has the event's word and whatever tells unlike events apart. By the key stands
    what else came: an edition, the answers of a sheet, nothing for a taking-back.
    """

    def __init__(self):
        self.came = {}

    def take(self, event):
        """Take an event; one that came already changes nothing."""
        refuse_event(event)
        if event[0] == "edition":
            refuse_unlike(self.came, event[1])
        key = key_of(event)
        if key not in self.came:
            self.came[key] = load_of(event)

    def merge(self, other):
        """Take all events of another box, or none where an edition of it is refused."""
        numbers = sorted([key[1] for key in other.came if key[0] == "edition"])
        for number in numbers:
            refuse_unlike(self.came, other.came[("edition", number)])
        for key in list(other.came):
            if key not in self.came:
                self.came[key] = other.came[key]

    def rewind(self, many):
        """Take back what came behind the first events, of which there are so many."""
        for key in list(self.came)[many:]:
            del self.came[key]

    def edition(self):
        """Tell the number of the edition counted in, 0 where there is none."""
        number = 0
        while ("edition", number + 1) in self.came:
            number += 1
        return number

    def form_now(self):
        """Tell the form of the edition counted in."""
        number = self.edition()
        if number == 0:
            raise NoEdition()
        return self.came[("edition", number)].form

    def events(self):
        """Tell how many unlike events came."""
        return len(self.came)

    def clashes(self):
        """List the pairs of a who and a number of which several unlike sheets came."""
        pairs = [(key[1], key[2]) for key in self.came if key[0] == "sheet"]
        many = {}
        for pair in pairs:
            many[pair] = many.get(pair, 0) + 1
        return sorted([pair for pair in many if many[pair] > 1])

    def people(self):
        """List all who of whom an event came."""
        return sorted({key[1] for key in self.came if key[0] != "edition"})

    def stands(self, who):
        """Tell how who stands."""
        last = last_sheets(self.came).get(who)
        if last is None:
            return ("none",)
        return standing(self.came, last, taken_back(self.came).get(who, 0), self.edition())

    def all_counted(self):
        """Tell the counted answers of all who stand so."""
        lasts = last_sheets(self.came)
        backs = taken_back(self.came)
        now = self.edition()
        told = {}
        for who in sorted(lasts):
            stand = standing(self.came, lasts[who], backs.get(who, 0), now)
            if stand[0] == "counted":
                told[who] = stand[1]
        return told


def refuse_event(event):
    """Refuse what is no event by itself."""
    word = event[0] if len(event) > 0 else ""
    if word not in EVENT_PARTS or len(event) != EVENT_PARTS[word]:
        raise NoEvent(word)
    if word == "edition":
        return
    refuse_no_name(event[1])
    if event[2] < 1:
        raise BadCount("number", event[2])
    if word == "sheet" and event[3] < 1:
        raise BadCount("edition", event[3])


def refuse_unlike(came, edition):
    """Refuse an edition where another one of its number came."""
    key = ("edition", edition.number)
    if key in came and came[key] != edition:
        raise Unlike(edition.number)


def key_of(event):
    """Tell what an event has in common with those alike to it alone."""
    if event[0] == "edition":
        return ("edition", event[1].number)
    if event[0] == "back":
        return event
    word, who, number, edition, answers = event
    return (word, who, number, edition, repr(sorted(answers.items())))


def load_of(event):
    """Tell what is kept of an event by its key."""
    if event[0] == "edition":
        return event[1]
    if event[0] == "back":
        return None
    answers = event[4]
    return {spot: answers[spot] for spot in answers}


def last_sheets(came):
    """Tell the key of each one's last sheet.

    Keys of one who are in the order of their sheets: by number, then edition, then text.
    """
    lasts = {}
    for key in came:
        if key[0] == "sheet" and (key[1] not in lasts or key > lasts[key[1]]):
            lasts[key[1]] = key
    return lasts


def taken_back(came):
    """Tell the greatest number up to which each one's sheets are taken back."""
    backs = {}
    for key in came:
        if key[0] == "back":
            word, who, number = key
            backs[who] = max(backs.get(who, 0), number)
    return backs


def standing(came, last, back, now):
    """Tell how one stands by the last sheet, the number taken back and the edition counted in."""
    word, who, number, edition, text = last
    if back >= number:
        return ("back",)
    if edition > now:
        return ("ahead", edition)
    behind = [came[("edition", later)] for later in range(edition + 1, now + 1)]
    walk = walked(came[("edition", now)].form, led_over(came[last], behind))
    if walk.word == "done":
        return ("counted", walk.counted)
    return (walk.word, walk.spot)

"""A house of a town: what it keeps, and what it does by a deed."""

from roofpost.tables import short_of
from roofpost.wishes import has_letter


class House:
    def __init__(self, how):
        self.how = how
        self.own = {}
        self.hears = {}
        self.said = {}
        self.had = {}
        self.rows = []

    def do(self, deed):
        done = self.done_by(deed)
        self.rows.append(deed)
        self.rows.extend(done)
        return done

    def done_by(self, deed):
        if deed[0] == "send":
            return self.take(deed[1], deed[2], None)
        if deed[0] == "come" and deed[2][0] == "letter":
            return self.take(deed[2][1], deed[2][2], deed[1])
        self.turn(deed)
        return self.tell_all()

    def turn(self, deed):
        if deed[0] == "wish":
            self.own[deed[1]] = deed[2]
        elif deed[0] == "back":
            self.own.pop(deed[1])
        elif deed[0] == "join":
            self.hears[deed[1]] = []
            self.said[deed[1]] = []
        elif deed[0] == "cut":
            self.hears.pop(deed[1])
            self.said.pop(deed[1])
        elif deed[2][0] == "more":
            self.hears[deed[1]].append(deed[2][1])
        else:
            self.hears[deed[1]].remove(deed[2][1])

    def tell_all(self):
        rows = []
        for neighbour in sorted(self.said):
            rows.extend(self.tell(neighbour))
        return rows

    # More goes ahead of less: so a letter that is wished all along is led all along.
    def tell(self, neighbour):
        due = self.due_to(neighbour)
        said = self.said[neighbour]
        self.said[neighbour] = due
        things = [("more", wish) for wish in due if wish not in said]
        things.extend([("less", wish) for wish in said if wish not in due])
        return [("tell", neighbour, thing) for thing in things]

    def due_to(self, neighbour):
        wishes = list(self.own.values())
        for other, heard in self.hears.items():
            if other != neighbour:
                wishes.extend(heard)
        return short_of(self.how, wishes)

    def take(self, number, letter, came):
        if number in self.had:
            return []
        self.had[number] = letter
        holds = [hold for hold, wish in self.own.items() if has_letter(wish, letter)]
        rows = [("give", number, tuple(sorted(holds)))]
        for neighbour in sorted(self.hears):
            if neighbour != came and self.is_wished_by(neighbour, letter):
                rows.append(("tell", neighbour, ("letter", number, letter)))
        return rows

    def is_wished_by(self, neighbour, letter):
        return any([has_letter(wish, letter) for wish in self.hears[neighbour]])

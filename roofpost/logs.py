"""Logs of houses: the first row that isn't so, and what is still to be done behind the last deed."""

from roofpost.errors import NoLog
from roofpost.house import House
from roofpost.wishes import must_be_kin


def judged(how, log):
    must_be_kin(written_in(log))
    return Reader(how).first_wrong(log)


def what_next(how, log):
    must_be_kin(written_in(log))
    reader = Reader(how)
    number = reader.first_wrong(log)
    if number is not None:
        raise NoLog(number)
    return reader.awaited


def written_in(log):
    things = [row[2] for row in log if row[0] in ("wish", "send")]
    things.extend([row[2][-1] for row in log if row[0] in ("come", "tell")])
    return things


class Reader:
    def __init__(self, how):
        self.house = House(how)
        # The house itself forgets what is taken back, but no number of a hold comes again.
        self.wished = {}
        self.awaited = []

    def first_wrong(self, log):
        for number, row in enumerate(log):
            if not self.goes_on(row):
                return number
        return None

    def goes_on(self, row):
        if len(self.awaited) > 0:
            return row == self.awaited.pop(0)
        if not self.may_be(row):
            return False
        if row[0] == "wish":
            self.wished[row[1]] = True
        self.awaited = self.house.done_by(row)
        return True

    def may_be(self, row):
        if row[0] == "wish":
            return row[1] not in self.wished
        if row[0] == "back":
            return row[1] in self.house.own
        if row[0] == "join":
            return row[1] not in self.house.hears
        if row[0] == "cut":
            return row[1] in self.house.hears
        if row[0] == "send":
            return row[1] not in self.house.had
        return row[0] == "come" and row[1] in self.house.hears and self.may_come(row[1], row[2])

    def may_come(self, neighbour, thing):
        if thing[0] == "more":
            return thing[1] not in self.house.hears[neighbour]
        if thing[0] == "less":
            return thing[1] in self.house.hears[neighbour]
        return self.house.had.get(thing[1], thing[2]) == thing[2]

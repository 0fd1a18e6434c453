"""Answers a list of calls on one new object."""

from nearroutes.session import Session

BEGIN = 0
LINK = 1
DOWN = 2
HEAR = 3
TICK = 4
WAY = 5
ROUTES = 6

# How many whole numbers a call has, its rows left out, by the call's number; the last one is due's.
NUMBERS_OF_CALL = (1, 3, 1, 2, 1, 1, 0, 0)


class Reader:
    def __init__(self, calls):
        self.calls = calls
        self.at = 0

    def has_more(self):
        return self.at < len(self.calls)

    def take(self, many):
        taken = self.calls[self.at:self.at + many]
        self.at = self.at + many
        return taken

    def take_one(self):
        return self.take(1)[0]

    def take_row(self):
        return self.take(self.take_one())


# Each call is read to its end before anything is answered: a refused one has a row, too.
def answer_next(session, reader):
    which = reader.take_one()
    numbers = reader.take(NUMBERS_OF_CALL[which])
    octets = reader.take_row() if which == HEAR else []
    if which == BEGIN:
        return [session.begin(numbers[0])]
    if not session.begun:
        return [-6]
    if which == LINK:
        return [session.bring_up(numbers[0], numbers[1], numbers[2])]
    if which == DOWN:
        return [session.take_down(numbers[0])]
    if which == HEAR:
        return [session.hear(numbers[0], numbers[1], octets)]
    if which == TICK:
        return session.tick(numbers[0])
    if which == WAY:
        return session.way(numbers[0])
    if which == ROUTES:
        return session.routes()
    return session.due()


def answers(calls):
    session = Session()
    reader = Reader(calls)
    answered = []
    while reader.has_more():
        answer = answer_next(session, reader)
        answered.append(len(answer))
        answered.extend(answer)
    return answered

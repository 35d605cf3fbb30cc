"""The program's one function: a list of calls is answered by a list of answers."""

from forgetproof.operations import carry_out, new_store
from forgetproof.refusals import NoStore, Refusal

CREATE = 0
# How many whole numbers each call has, not counting its row.
NUMBER_COUNTS = (1, 3, 1, 1, 3, 2, 1, 1, 2, 2, 1, 1, 1, 2, 2, 2, 3, 1, 0, 1, 1, 4, 1, 1, 0)
CALLS_WITH_ROW = (17, 21)


def read_calls(calls):
    """The calls as (number, what is handed in with it), a row being a list among the latter."""
    found = []
    at = 0
    while at < len(calls):
        number = calls[at]
        end = at + 1 + NUMBER_COUNTS[number]
        given = calls[at + 1:end]
        if number in CALLS_WITH_ROW:
            row_end = end + 1 + calls[end]
            given.append(calls[end + 1:row_end])
            end = row_end
        found.append((number, given))
        at = end
    return found


class Session:
    """One object on which calls are made; at first it has no store."""

    def __init__(self):
        self.store = None

    def done(self, number, given):
        if number == CREATE:
            self.store = new_store(given[0])
            return [0]
        if self.store is None:
            raise NoStore()
        return carry_out(self.store, number, given)

    def answer(self, number, given):
        try:
            return self.done(number, given)
        except Refusal as e:
            return [e.code]


def answers(calls):
    session = Session()
    answered = []
    for number, given in read_calls(calls):
        answer = session.answer(number, given)
        answered.append(len(answer))
        answered.extend(answer)
    return answered

"""The calls as they are handed in, one behind another, and their answers."""

from ordersalone.changes import back
from ordersalone.changes import begin
from ordersalone.changes import tell
from ordersalone.changes import turn
from ordersalone.changes import untell
from ordersalone.changes import without
from ordersalone.looks import fewest
from ordersalone.looks import first
from ordersalone.looks import fits
from ordersalone.looks import heard
from ordersalone.looks import line
from ordersalone.looks import links
from ordersalone.looks import most_apart
from ordersalone.looks import most_in_row
from ordersalone.looks import order
from ordersalone.looks import orders
from ordersalone.looks import pairs
from ordersalone.looks import past
from ordersalone.looks import place
from ordersalone.looks import places_on_line
from ordersalone.looks import sooner
from ordersalone.looks import state
from ordersalone.looks import told
from ordersalone.record import Record
from ordersalone.refusals import NOT_BEGUN

BEGIN = 0
TELL = 1
UNTELL = 2
TURN = 3
WITHOUT = 4
TOLD = 5
HEARD = 6
PAIRS = 7
PAST = 8
LINKS = 9
ORDERS = 10
ORDER = 11
FITS = 12
FIRST = 13
SOONER = 14
PLACE = 15
LINE = 16
EVENTS = 17
FEWEST = 18
ROW = 19
APART = 20
BACK = 21

# How many whole numbers stand behind each call's own number; that of fits tells how long its row is.
WIDTHS = (1, 2, 2, 0, 1, 0, 2, 0, 1, 0, 0, 1, 1, 0, 2, 1, 0, 0, 0, 0, 0, 0, 0)


def call_end(calls, at):
    """Where the call behind the one at this place begins."""
    end = at + 1 + WIDTHS[calls[at]]
    if calls[at] == FITS:
        return end + calls[at + 1]
    return end


def answer_change(record, call, given):
    if call == TELL:
        return tell(record, given[0], given[1])
    if call == UNTELL:
        return untell(record, given[0], given[1])
    if call == TURN:
        return turn(record)
    if call == WITHOUT:
        return without(record, given[0])
    return back(record)


def answer_hearing(record, call, given):
    if call == TOLD:
        return told(record)
    if call == HEARD:
        return heard(record, given[0], given[1])
    if call == PAIRS:
        return pairs(record)
    if call == PAST:
        return past(record, given[0])
    if call == LINKS:
        return links(record)
    return first(record)


def answer_orders(record, call, given):
    if call == ORDERS:
        return orders(record)
    if call == ORDER:
        return order(record, given[0])
    if call == FITS:
        return fits(record, given[1:])
    if call == SOONER:
        return sooner(record, given[0], given[1])
    return place(record, given[0])


def answer_whole(record, call):
    if call == LINE:
        return line(record)
    if call == EVENTS:
        return places_on_line(record)
    if call == FEWEST:
        return fewest(record)
    if call == ROW:
        return most_in_row(record)
    if call == APART:
        return most_apart(record)
    return state(record)


def answer_call(record, call, given):
    if call == BEGIN:
        return begin(record, given[0])
    if not record.begun():
        return [NOT_BEGUN]
    if call <= WITHOUT or call == BACK:
        return answer_change(record, call, given)
    if call <= LINKS or call == FIRST:
        return answer_hearing(record, call, given)
    if call <= PLACE:
        return answer_orders(record, call, given)
    return answer_whole(record, call)


def answers(calls):
    record = Record()
    answered = []
    at = 0
    while at < len(calls):
        end = call_end(calls, at)
        numbers = answer_call(record, calls[at], calls[at + 1:end])
        answered.append(len(numbers))
        answered.extend(numbers)
        at = end
    return answered

"""The package's interface: a list of calls is read one by one, and their answers are given back in one list."""

from searchlegs.calls import Search

# How many numbers stand behind the number of each call, from call 0 on.
SIZES = (4, 3, 4, 1, 0, 1, 2, 0, 2, 0, 1)


def answer_change(search, number, given):
    if number == 0:
        return search.sl_start(given[0], given[1], given[2], given[3])
    if number == 1:
        return search.sl_craft(given[0], given[1], given[2])
    if number == 2:
        return search.sl_area(given[0], given[1], given[2], given[3])
    if number == 3:
        return search.sl_drop(given[0])
    if number == 4:
        return search.sl_take()
    return search.sl_hours(given[0])


def answer_question(search, number, given):
    if number == 6:
        return search.sl_alone(given[0], given[1])
    if number == 7:
        return search.sl_soonest()
    if number == 8:
        return search.sl_by(given[0], given[1])
    if number == 9:
        return search.sl_plan()
    return search.sl_legs(given[0])


def answer_call(search, number, given):
    if number <= 5:
        return answer_change(search, number, given)
    return answer_question(search, number, given)


def answers(calls):
    """For each call, in order: how many numbers it answers, and these."""
    search = Search()
    told = []
    at = 0
    while at < len(calls):
        number = calls[at]
        end = at + 1 + SIZES[number]
        answer = answer_call(search, number, calls[at + 1:end])
        told.append(len(answer))
        told.extend(answer)
        at = end
    return told

"""The package's interface: a list of calls is read one by one, and their answers are given back in one list."""

from searchlegs.calls import Search

# How many numbers stand behind the number of each call, from call 0 on.
SIZES = (4, 3, 4, 1, 0, 1, 2, 0, 2, 0, 1, 2, 1, 2, 2, 3, 1, 0, 0, 0, 0, 0)


def answer_change(search, number, given):
    if number == 0:
        return search.sl_start(given[0], given[1], given[2], given[3])
    if number == 1:
        return search.sl_craft(given[0], given[1], given[2])
    if number == 2:
        return search.sl_area(given[0], given[1], given[2], given[3])
    if number == 3:
        return search.sl_drop(given[0])
    if number == 4:
        return search.sl_take()
    return search.sl_hours(given[0])


def answer_about_hours(search, number, given):
    if number == 6:
        return search.sl_alone(given[0], given[1])
    if number == 7:
        return search.sl_soonest()
    if number == 8:
        return search.sl_by(given[0], given[1])
    if number == 9:
        return search.sl_plan()
    return search.sl_legs(given[0])


def answer_about_legs(search, number, given):
    if number == 11:
        return search.sl_leg(given[0], given[1])
    if number == 12:
        return search.sl_where(given[0])
    if number == 13:
        return search.sl_when(given[0], given[1])
    if number == 14:
        return search.sl_seen(given[0], given[1])
    return search.sl_most(given[0], given[1], given[2])


def answer_about_sizes(search, number, given):
    if number == 16:
        return search.sl_look(given[0])
    if number == 17:
        return search.sl_size()
    return search.sl_ends()


def answer_about_changes(search, number):
    if number == 19:
        return search.sl_back()
    if number == 20:
        return search.sl_again()
    return search.sl_state()


def answer_call(search, number, given):
    if number <= 5:
        return answer_change(search, number, given)
    if number <= 10:
        return answer_about_hours(search, number, given)
    if number <= 15:
        return answer_about_legs(search, number, given)
    if number <= 18:
        return answer_about_sizes(search, number, given)
    return answer_about_changes(search, number)


def answers(calls):
    """For each call, in order: how many numbers it answers, and these."""
    search = Search()
    told = []
    at = 0
    while at < len(calls):
        number = calls[at]
        end = at + 1 + SIZES[number]
        answer = answer_call(search, number, calls[at + 1:end])
        told.append(len(answer))
        told.extend(answer)
        at = end
    return told

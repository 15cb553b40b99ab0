"""What trays that are begun take and need, minute by minute.

A run is a tuple: the minute at which a tray is begun, and a list of the powers that it takes from then on.
"""


def run_end(run):
    return run[0] + len(run[1])


def is_running(run, minute):
    return run[0] <= minute < run_end(run)


# Below 0 where more is given back than others take.
def taken_in(runs, minute):
    return sum([run[1][minute - run[0]] for run in runs if is_running(run, minute)])


def drawn_in(runs, minute):
    return max(0, taken_in(runs, minute))


def burnt_in(runs, minute):
    return max(0, -taken_in(runs, minute))


def used_in(runs, minute):
    return len([run for run in runs if is_running(run, minute)])


def end_of_all(runs, minute):
    return max([minute] + [run_end(run) for run in runs])


# Nothing is drawn behind the end of all, so the minutes up to it are enough, here and in most_used_from.
def top_from(runs, minute):
    return max([drawn_in(runs, later) for later in range(minute, end_of_all(runs, minute))], default=0)


def most_used_from(runs, minute):
    return max([used_in(runs, later) for later in range(minute, end_of_all(runs, minute))], default=0)

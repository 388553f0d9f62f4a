"""Lists of halves taken together, one half after the other.

What is worked out in several steps is answered like a lane: what all steps raised, then the last one's half.
"""

from halfrowsdesk.arithmetic import add


def sum_in_order(way, halves):
    raised = 0
    total = 0
    for half in halves:
        answer = add(way, total, half)
        raised = raised | answer[0]
        total = answer[1]
    return (raised, total)

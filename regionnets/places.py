"""Which of the regions are the net's places."""

from regionnets.questions import questions_in_order, tells_apart


def places_in_order(seen, regions):
    asked = questions_in_order(seen)
    tellers = tellers_of_each(asked, regions)
    staying = []
    for region in reversed(regions):
        told = [question for question in asked if tells_apart(region, question)]
        if all([tellers[question] > 1 for question in told]):
            for question in told:
                tellers[question] -= 1
        else:
            staying.append(region)
    return list(reversed(staying))


# With how many still tell a question apart kept, no region needs to be held against all others.
def tellers_of_each(questions, regions):
    tellers = {}
    for question in questions:
        tellers[question] = len([region for region in regions if tells_apart(region, question)])
    return tellers

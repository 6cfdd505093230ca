"""Who is first, who is preferred to whom, who beats whom, and the least set that beats all others."""


def count_voters(poll):
    return sum([ballot.voters for ballot in poll.ballots])


def count_firsts(poll):
    """Of each candidate how many voters have them first."""
    counts = [0] * poll.candidates
    for ballot in poll.ballots:
        # An empty order has no first, though its voters count as voters.
        if len(ballot.order) > 0:
            counts[ballot.order[0]] += ballot.voters
    return counts


def prefers(order, a, b):
    if a not in order:
        return False
    return b not in order or order.index(a) < order.index(b)


def count_preferring(poll, a, b):
    return sum([ballot.voters for ballot in poll.ballots if prefers(ballot.order, a, b)])


def beats(poll, a, b):
    return count_preferring(poll, a, b) > count_preferring(poll, b, a)


def beats_each_other_one(poll, a):
    return all([beats(poll, a, b) for b in range(poll.candidates) if b != a])


def find_champion(poll):
    """Who beats each other one, or None."""
    for candidate in range(poll.candidates):
        if beats_each_other_one(poll, candidate):
            return candidate
    return None


def least_set_with(poll, candidate):
    """The least set that has this candidate and of whom each beats each one outside, rising."""
    # Whoever a member doesn't beat can't stay outside, so it's drawn in till nobody is left to draw.
    members = [candidate]
    seen = 0
    while seen < len(members):
        for other in range(poll.candidates):
            if other not in members and not beats(poll, members[seen], other):
                members.append(other)
        seen += 1
    return sorted(members)


def find_least_set(poll):
    """The least set that beats all others, rising."""
    # Of two such sets one lies within the other, so there is just one with the fewest members.
    return min([least_set_with(poll, candidate) for candidate in range(poll.candidates)], key=len)

"""Strongest paths from one candidate to another, who is above whom by them, the ranking and the unbeaten."""

from orderpolls.pairs import beats, count_preferring


def find_step_strength(poll, a, b):
    """With how much strength a beats b; 0 if a doesn't."""
    if not beats(poll, a, b):
        return 0
    return count_preferring(poll, a, b)


def find_step_strengths(poll, a):
    """Of each candidate with how much strength a beats them."""
    return [find_step_strength(poll, a, b) for b in range(poll.candidates)]


def find_strengths(poll):
    """In row a, at place b: the strength of the strongest path from a to b; 0 if there's none."""
    strengths = [find_step_strengths(poll, a) for a in range(poll.candidates)]
    # Once a middle has been tried, the paths known so far may go through it and through all middles tried before.
    for middle in range(poll.candidates):
        for a in range(poll.candidates):
            for b in range(poll.candidates):
                through = min(strengths[a][middle], strengths[middle][b])
                strengths[a][b] = max(strengths[a][b], through)
    return strengths


def is_above(strengths, a, b):
    return strengths[a][b] > strengths[b][a]


def count_others_below(strengths, a):
    return len([b for b in range(len(strengths)) if is_above(strengths, a, b)])


def is_unbeaten(strengths, a):
    return not any([is_above(strengths, b, a) for b in range(len(strengths))])


def rank_candidates(poll):
    """All candidates, those first who are above more others, of such as are above as many the lower number first."""
    strengths = find_strengths(poll)
    return sorted(range(poll.candidates), key=lambda a: (-count_others_below(strengths, a), a))


def find_unbeaten(poll):
    """Whom nobody is above, rising."""
    strengths = find_strengths(poll)
    return [a for a in range(poll.candidates) if is_unbeaten(strengths, a)]

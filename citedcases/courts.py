"""A land's courts and their decisions: what stands on a day, and what binds a court.

From outside, answers(calls) alone is used; each answer_.. below answers one sort of call.
"""

MOST_KINDS = 10
MOST_COURTS = 8
MOST_DECISIONS = 30
LAST_DAY = 99999

NOT_REFUSED = 0
WRONGLY_TOLD = -1
NO_SUCH = -2
TOO_EARLY = -4
NO_ROOM = -5
NOT_TO_OVERRULE = -6


class Land:
    """The kinds of findings, the courts and the decisions that have been told."""

    def __init__(self):
        self.sides = []
        # Of each court, as it was told: 0, or 1 more than the number of the one above it.
        self.uppers = []
        self.decisions = []


class Decision:
    """A decision as it was told, and what became of it."""

    def __init__(self, court, day, side, findings, reason, overruled):
        self.court = court
        self.day = day
        self.side = side
        self.findings = findings
        self.reason = reason
        self.overruled = overruled
        self.barred = False
        # The number of the decision that took this one away.
        self.taker = None


def rises(numbers):
    for k in range(1, len(numbers)):
        if numbers[k] <= numbers[k - 1]:
            return False
    return True


def all_among(some, others):
    return all([one in others for one in some])


def is_court(land, court):
    return court < len(land.uppers)


def are_findings(land, findings):
    return rises(findings) and all([kind < len(land.sides) for kind in findings])


def is_reason(land, reason, findings, side):
    """Asked only of sound findings: a reason among these has no unknown kind."""
    if not rises(reason) or not all_among(reason, findings):
        return False
    return all([land.sides[kind] == side for kind in reason])


def courts_above(land, court):
    found = []
    upper = land.uppers[court]
    while upper != 0:
        found.append(upper - 1)
        upper = land.uppers[upper - 1]
    return found


def is_within_reach(land, court, other):
    """Whether court may take away what the other court decided."""
    return other == court or court in courts_above(land, other)


def gainsay(one, other):
    if one.side == other.side:
        return False
    return all_among(one.reason, other.findings) and all_among(other.reason, one.findings)


def stands_on(land, decision, day):
    if decision.barred or day < decision.day:
        return False
    if decision.taker is None:
        return True
    # A day is seen behind all its decisions: on the taker's own day it's gone.
    return day < land.decisions[decision.taker].day


def standing(land, day):
    return [k for k in range(len(land.decisions)) if stands_on(land, land.decisions[k], day)]


def binding(land, court, day):
    bench = [court] + courts_above(land, court)
    return [k for k in standing(land, day) if land.decisions[k].court in bench]


def is_barred(land, decision):
    higher = courts_above(land, decision.court)
    for k in standing(land, decision.day):
        earlier = land.decisions[k]
        if earlier.court in higher and gainsay(earlier, decision):
            return True
    return False


def taken_away_by(land, decision):
    taken = []
    for k in standing(land, decision.day):
        earlier = land.decisions[k]
        if not is_within_reach(land, decision.court, earlier.court):
            continue
        if k in decision.overruled or gainsay(earlier, decision):
            taken.append(k)
    return taken


def is_well_told(land, decision):
    if not are_findings(land, decision.findings):
        return False
    if not is_reason(land, decision.reason, decision.findings, decision.side):
        return False
    return rises(decision.overruled) and decision.day <= LAST_DAY


def is_too_early(land, decision):
    return len(land.decisions) > 0 and decision.day < land.decisions[-1].day


def may_be_overruled(land, decision, number):
    if number >= len(land.decisions):
        return False
    earlier = land.decisions[number]
    if not stands_on(land, earlier, decision.day):
        return False
    return is_within_reach(land, decision.court, earlier.court)


def refusal_to_decide(land, decision):
    if not is_court(land, decision.court):
        return NO_SUCH
    if not is_well_told(land, decision):
        return WRONGLY_TOLD
    if is_too_early(land, decision):
        return TOO_EARLY
    if len(land.decisions) >= MOST_DECISIONS:
        return NO_ROOM
    if not all([may_be_overruled(land, decision, number) for number in decision.overruled]):
        return NOT_TO_OVERRULE
    return NOT_REFUSED


def decision_told(numbers):
    findings_end = 4 + numbers[3]
    reason_start = findings_end + 1
    reason_end = reason_start + numbers[findings_end]
    findings = numbers[4:findings_end]
    reason = numbers[reason_start:reason_end]
    overruled = numbers[reason_end:]
    return Decision(numbers[0], numbers[1], numbers[2], findings, reason, overruled)


def answer_begins(land, numbers):
    if len(numbers) > MOST_KINDS:
        return [WRONGLY_TOLD]
    land.sides = list(numbers)
    land.uppers = []
    land.decisions = []
    return [0]


def answer_court(land, numbers):
    upper = numbers[0]
    if upper != 0 and not is_court(land, upper - 1):
        return [NO_SUCH]
    if len(land.uppers) >= MOST_COURTS:
        return [NO_ROOM]
    land.uppers.append(upper)
    return [len(land.uppers) - 1]


def answer_decide(land, numbers):
    decision = decision_told(numbers)
    refusal = refusal_to_decide(land, decision)
    if refusal != NOT_REFUSED:
        return [refusal]
    number = len(land.decisions)
    # A barred one is kept too: it has a number and a day, though it never stands.
    decision.barred = is_barred(land, decision)
    taken = [] if decision.barred else taken_away_by(land, decision)
    for k in taken:
        earlier = land.decisions[k]
        earlier.taker = number
    land.decisions.append(decision)
    return [number, 0 if decision.barred else 1] + taken


def answer_stands(land, numbers):
    if numbers[0] >= len(land.decisions):
        return [NO_SUCH]
    decision = land.decisions[numbers[0]]
    return [1 if stands_on(land, decision, numbers[1]) else 0]


def answer_binds(land, numbers):
    if not is_court(land, numbers[0]):
        return [NO_SUCH]
    bound_by = binding(land, numbers[0], numbers[1])
    return [len(bound_by)] + bound_by


# In the order of the calls' numbers.
ANSWERERS = (answer_begins, answer_court, answer_decide, answer_stands, answer_binds)


def answers(calls):
    """Answers a list of calls about one new land, spelled as the document tells."""
    land = Land()
    answered = []
    at = 0
    while at < len(calls):
        start = at + 2
        end = start + calls[at + 1]
        answerer = ANSWERERS[calls[at]]
        answer = answerer(land, calls[start:end])
        answered.append(len(answer))
        answered.extend(answer)
        # Behind a call's numbers stands how many lists it has: none, a 0 to step over.
        at = end + 1
    return answered

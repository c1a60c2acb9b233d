"""A land's courts and their decisions: what stands on a day, what binds a court, and what that forces on a case.

From outside, answers(calls) alone is used; each answer_.. below answers one sort of call.
"""

MOST_KINDS = 10
MOST_COURTS = 8
MOST_DECISIONS = 30
LAST_DAY = 99999

NOT_REFUSED = 0
WRONGLY_TOLD = -1
NO_SUCH = -2
TOO_EARLY = -4
NO_ROOM = -5
NOT_TO_OVERRULE = -6
NOTHING_FREES = -6


class Land:
    """The kinds of findings, the courts and the decisions that have been told."""

    def __init__(self):
        self.sides = []
        # Of each court, as it was told: 0, or 1 more than the number of the one above it.
        self.uppers = []
        self.decisions = []


class Decision:
    """A decision as it was told, and what became of it."""

    def __init__(self, court, day, side, findings, reason, overruled):
        self.court = court
        self.day = day
        self.side = side
        self.findings = findings
        self.reason = reason
        self.overruled = overruled
        self.barred = False
        # The number of the decision that took this one away.
        self.taker = None


def rises(numbers):
    for k in range(1, len(numbers)):
        if numbers[k] <= numbers[k - 1]:
            return False
    return True


def all_among(some, others):
    return all([one in others for one in some])


def is_court(land, court):
    return court < len(land.uppers)


def is_decision(land, number):
    return number < len(land.decisions)


def are_findings(land, findings):
    return rises(findings) and all([kind < len(land.sides) for kind in findings])


def is_reason(land, reason, findings, side):
    """Asked only of sound findings: a reason among these has no unknown kind."""
    if not rises(reason) or not all_among(reason, findings):
        return False
    return all([land.sides[kind] == side for kind in reason])


def courts_above(land, court):
    found = []
    upper = land.uppers[court]
    while upper != 0:
        found.append(upper - 1)
        upper = land.uppers[upper - 1]
    return found


def is_within_reach(land, court, other):
    """Whether court may take away what the other court decided."""
    return other == court or court in courts_above(land, other)


def gainsay(one, other):
    if one.side == other.side:
        return False
    return all_among(one.reason, other.findings) and all_among(other.reason, one.findings)


def stands_on(land, decision, day):
    if decision.barred or day < decision.day:
        return False
    if decision.taker is None:
        return True
    # A day is seen behind all its decisions: on the taker's own day it's gone.
    return day < land.decisions[decision.taker].day


def standing(land, day):
    return [k for k in range(len(land.decisions)) if stands_on(land, land.decisions[k], day)]


def binding(land, court, day):
    bench = [court] + courts_above(land, court)
    return [k for k in standing(land, day) if land.decisions[k].court in bench]


def is_barred(land, decision):
    higher = courts_above(land, decision.court)
    for k in standing(land, decision.day):
        earlier = land.decisions[k]
        if earlier.court in higher and gainsay(earlier, decision):
            return True
    return False


def taken_away_by(land, decision):
    taken = []
    for k in standing(land, decision.day):
        earlier = land.decisions[k]
        if not is_within_reach(land, decision.court, earlier.court):
            continue
        if k in decision.overruled or gainsay(earlier, decision):
            taken.append(k)
    return taken


def missing_of_reason(decision, findings):
    return [kind for kind in decision.reason if kind not in findings]


def new_against(land, decision, findings):
    """Of the findings those that speak for the other side and weren't found in the decision."""
    return [kind for kind in findings if land.sides[kind] != decision.side and kind not in decision.findings]


def forces(land, decision, findings):
    if len(missing_of_reason(decision, findings)) > 0:
        return False
    return len(new_against(land, decision, findings)) == 0


def forcing(land, numbers, findings):
    """Of the decisions with these numbers those that force their side on a case."""
    return [k for k in numbers if forces(land, land.decisions[k], findings)]


def is_any_forcing(land, numbers, findings):
    for k in numbers:
        if forces(land, land.decisions[k], findings):
            return True
    return False


def each_one_longer(lists, kinds):
    """Rising lists out of rising ones, each with one kind more; they come in order, if those handed in do."""
    longer = []
    for some in lists:
        for kind in kinds:
            if len(some) == 0 or kind > some[-1]:
                longer.append(some + [kind])
    return longer


def fewest_that_free(land, numbers, findings, spare):
    """The first of the shortest lists of spare findings with which none of these decisions forces; or None."""
    tried = [[]]
    while len(tried) > 0:
        for more in tried:
            if not is_any_forcing(land, numbers, findings + more):
                return more
        tried = each_one_longer(tried, spare)
    return None


def is_well_told(land, decision):
    if not are_findings(land, decision.findings):
        return False
    if not is_reason(land, decision.reason, decision.findings, decision.side):
        return False
    return rises(decision.overruled) and decision.day <= LAST_DAY


def is_too_early(land, decision):
    return len(land.decisions) > 0 and decision.day < land.decisions[-1].day


def may_be_overruled(land, decision, number):
    if not is_decision(land, number):
        return False
    earlier = land.decisions[number]
    if not stands_on(land, earlier, decision.day):
        return False
    return is_within_reach(land, decision.court, earlier.court)


def refusal_to_decide(land, decision):
    if not is_court(land, decision.court):
        return NO_SUCH
    if not is_well_told(land, decision):
        return WRONGLY_TOLD
    if is_too_early(land, decision):
        return TOO_EARLY
    if len(land.decisions) >= MOST_DECISIONS:
        return NO_ROOM
    if not all([may_be_overruled(land, decision, number) for number in decision.overruled]):
        return NOT_TO_OVERRULE
    return NOT_REFUSED


def decision_told(numbers):
    findings_end = 4 + numbers[3]
    reason_start = findings_end + 1
    reason_end = reason_start + numbers[findings_end]
    findings = numbers[4:findings_end]
    reason = numbers[reason_start:reason_end]
    overruled = numbers[reason_end:]
    return Decision(numbers[0], numbers[1], numbers[2], findings, reason, overruled)


def answer_begins(land, numbers):
    if len(numbers) > MOST_KINDS:
        return [WRONGLY_TOLD]
    land.sides = list(numbers)
    land.uppers = []
    land.decisions = []
    return [0]


def answer_court(land, numbers):
    upper = numbers[0]
    if upper != 0 and not is_court(land, upper - 1):
        return [NO_SUCH]
    if len(land.uppers) >= MOST_COURTS:
        return [NO_ROOM]
    land.uppers.append(upper)
    return [len(land.uppers) - 1]


def answer_decide(land, numbers):
    decision = decision_told(numbers)
    refusal = refusal_to_decide(land, decision)
    if refusal != NOT_REFUSED:
        return [refusal]
    number = len(land.decisions)
    # A barred one is kept too: it has a number and a day, though it never stands.
    decision.barred = is_barred(land, decision)
    taken = [] if decision.barred else taken_away_by(land, decision)
    for k in taken:
        earlier = land.decisions[k]
        earlier.taker = number
    land.decisions.append(decision)
    return [number, 0 if decision.barred else 1] + taken


def answer_stands(land, numbers):
    if not is_decision(land, numbers[0]):
        return [NO_SUCH]
    decision = land.decisions[numbers[0]]
    return [1 if stands_on(land, decision, numbers[1]) else 0]


def answer_binds(land, numbers):
    if not is_court(land, numbers[0]):
        return [NO_SUCH]
    bound_by = binding(land, numbers[0], numbers[1])
    return [len(bound_by)] + bound_by


def answer_forced(land, numbers):
    findings = numbers[2:]
    if not is_court(land, numbers[0]):
        return [NO_SUCH]
    if not are_findings(land, findings):
        return [WRONGLY_TOLD]
    bound_by = forcing(land, binding(land, numbers[0], numbers[1]), findings)
    if len(bound_by) == 0:
        return [0]
    # No court is bound both ways: the first one's side is the side of all.
    first = land.decisions[bound_by[0]]
    return [1 if first.side == 1 else 2] + bound_by


def answer_distinguish(land, numbers):
    findings = numbers[1:]
    if not is_decision(land, numbers[0]):
        return [NO_SUCH]
    if not are_findings(land, findings):
        return [WRONGLY_TOLD]
    decision = land.decisions[numbers[0]]
    missing = missing_of_reason(decision, findings)
    if len(missing) > 0:
        return [0] + missing
    against = new_against(land, decision, findings)
    if len(against) > 0:
        return [1] + against
    return [2]


def answer_may(land, numbers):
    findings_end = 4 + numbers[3]
    thought_of = Decision(numbers[0], numbers[1], numbers[2], numbers[4:findings_end], numbers[findings_end:], [])
    if not is_court(land, thought_of.court):
        return [NO_SUCH]
    if not are_findings(land, thought_of.findings):
        return [WRONGLY_TOLD]
    if not is_reason(land, thought_of.reason, thought_of.findings, thought_of.side):
        return [WRONGLY_TOLD]
    bound_by = binding(land, thought_of.court, thought_of.day)
    against = [k for k in bound_by if gainsay(land.decisions[k], thought_of)]
    if len(against) > 0:
        return [0] + against
    return [1]


def answer_free(land, numbers):
    side = numbers[2]
    findings = numbers[3:]
    if not is_court(land, numbers[0]):
        return [NO_SUCH]
    if not are_findings(land, findings):
        return [WRONGLY_TOLD]
    bound_by = [k for k in binding(land, numbers[0], numbers[1]) if land.decisions[k].side == side]
    spare = [kind for kind in range(len(land.sides)) if land.sides[kind] != side and kind not in findings]
    more = fewest_that_free(land, bound_by, findings, spare)
    if more is None:
        return [NOTHING_FREES]
    return [len(more)] + more


def answer_life(land, numbers):
    if not is_decision(land, numbers[0]):
        return [NO_SUCH]
    decision = land.decisions[numbers[0]]
    if decision.barred:
        return [0]
    if decision.taker is None:
        return [1, decision.day]
    taker = land.decisions[decision.taker]
    return [2, decision.day, taker.day, decision.taker]


# In the order of the calls' numbers.
ANSWERERS = (
    answer_begins, answer_court, answer_decide, answer_stands, answer_binds,
    answer_forced, answer_distinguish, answer_may, answer_free, answer_life,
)


def answers(calls):
    """Answers a list of calls about one new land, spelled as the document tells."""
    land = Land()
    answered = []
    at = 0
    while at < len(calls):
        start = at + 2
        end = start + calls[at + 1]
        answerer = ANSWERERS[calls[at]]
        answer = answerer(land, calls[start:end])
        answered.append(len(answer))
        answered.extend(answer)
        # Behind a call's numbers stands how many lists it has: none, a 0 to step over.
        at = end + 1
    return answered

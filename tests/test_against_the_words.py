"""Many made-up lines of calls, answered once more by going through the document's words."""

import itertools
import random
import unittest

from spelling import FAR, begins, binds, court, decide, distinguish, forced, free, life, may, stands, told


class Words:
    """Keeps the told decisions alone, and goes through all of them anew at each question."""

    def __init__(self):
        self.kinds, self.above, self.told = [], [], []

    def higher(self, of):
        up = self.above[of]
        return set() if up is None else {up} | self.higher(up)

    @staticmethod
    def gainsay(a, b):
        return a["side"] != b["side"] and a["reason"] <= b["found"] and b["reason"] <= a["found"]

    def replay(self, cases):
        up, fates = set(), []
        for number, case in enumerate(cases):
            if any(cases[k]["court"] in self.higher(case["court"]) and self.gainsay(cases[k], case) for k in up):
                fates.append((0, []))
                continue
            reach = {k for k in up if case["court"] in self.higher(cases[k]["court"]) | {cases[k]["court"]}}
            gone = {k for k in reach if k in case["over"] or self.gainsay(cases[k], case)}
            up = (up - gone) | {number}
            fates.append((1, sorted(gone)))
        return up, fates

    def up_on(self, day):
        return self.replay([case for case in self.told if case["day"] <= day])[0]

    def begins(self, *sides):
        if len(sides) > 10:
            return [-1]
        self.__init__()
        self.kinds = list(sides)
        return [0]

    def court(self, above):
        if above > len(self.above):
            return [-2]
        if len(self.above) == 8:
            return [-5]
        self.above.append(above - 1 if above else None)
        return [len(self.above) - 1]

    def ill_found(self, findings):
        return list(findings) != sorted(set(findings)) or not set(findings) <= set(range(len(self.kinds)))

    def ill_reasoned(self, side, findings, reason):
        if list(reason) != sorted(set(reason)) or not set(reason) <= set(findings):
            return True
        return any(self.kinds[kind] != side for kind in reason)

    def ill_told(self, day, side, findings, reason, overruled):
        if self.ill_found(findings) or self.ill_reasoned(side, findings, reason):
            return True
        return day > 99999 or list(overruled) != sorted(set(overruled))

    def decide(self, of, day, side, findings, reason, overruled):
        if of >= len(self.above):
            return [-2]
        if self.ill_told(day, side, findings, reason, overruled):
            return [-1]
        if self.told and day < self.told[-1]["day"]:
            return [-4]
        if len(self.told) == 30:
            return [-5]
        up = self.replay(self.told)[0]
        for k in overruled:
            if k not in up or of not in self.higher(self.told[k]["court"]) | {self.told[k]["court"]}:
                return [-6]
        self.told.append({"court": of, "day": day, "side": side, "found": set(findings),
                          "reason": set(reason), "over": set(overruled)})
        stood, gone = self.replay(self.told)[1][-1]
        return [len(self.told) - 1, stood] + gone

    def stands(self, decision, day):
        return [-2] if decision >= len(self.told) else [int(decision in self.up_on(day))]

    def binds(self, of, day):
        if of >= len(self.above):
            return [-2]
        bound = self.bound_by(of, day)
        return [len(bound)] + bound

    def bound_by(self, of, day):
        return sorted(k for k in self.up_on(day) if self.told[k]["court"] in self.higher(of) | {of})

    def speaking_for(self, side):
        return {kind for kind, spoken_for in enumerate(self.kinds) if spoken_for == side}

    def forces(self, case, found):
        return case["reason"] <= found and found & self.speaking_for(1 - case["side"]) <= case["found"]

    def forced(self, of, day, findings):
        if of >= len(self.above):
            return [-2]
        if self.ill_found(findings):
            return [-1]
        by = [k for k in self.bound_by(of, day) if self.forces(self.told[k], set(findings))]
        ways = {self.told[k]["side"] for k in by}
        if len(ways) == 2:
            raise AssertionError("a court that is bound both ways")
        return [2 - ways.pop()] + by if ways else [0]

    def distinguish(self, decision, findings):
        if decision >= len(self.told):
            return [-2]
        if self.ill_found(findings):
            return [-1]
        case, found = self.told[decision], set(findings)
        if case["reason"] - found:
            return [0] + sorted(case["reason"] - found)
        if not self.forces(case, found):
            return [1] + sorted((found & self.speaking_for(1 - case["side"])) - case["found"])
        return [2]

    def may(self, of, day, side, findings, reason):
        if of >= len(self.above):
            return [-2]
        if self.ill_found(findings) or self.ill_reasoned(side, findings, reason):
            return [-1]
        case = {"side": side, "found": set(findings), "reason": set(reason)}
        against = [k for k in self.bound_by(of, day) if self.gainsay(self.told[k], case)]
        return [0] + against if against else [1]

    def free(self, of, day, side, findings):
        if of >= len(self.above):
            return [-2]
        if self.ill_found(findings):
            return [-1]
        by = [self.told[k] for k in self.bound_by(of, day) if self.told[k]["side"] == side]
        spare = sorted(self.speaking_for(1 - side) - set(findings))
        for many in range(len(spare) + 1):
            freeing = [more for more in itertools.combinations(spare, many)
                       if not any(self.forces(case, set(findings) | set(more)) for case in by)]
            if freeing:
                return [many, *min(freeing)]
        return [-6]

    def life(self, decision):
        if decision >= len(self.told):
            return [-2]
        day = self.told[decision]["day"]
        fates = self.replay(self.told)[1]
        if not fates[decision][0]:
            return [0]
        for number, fate in enumerate(fates):
            if decision in fate[1]:
                return [2, day, self.told[number]["day"], number]
        return [1, day]


SPELLED = {"begins": begins, "court": court, "decide": decide, "stands": stands, "binds": binds, "forced": forced,
           "distinguish": distinguish, "may": may, "free": free, "life": life}


def some_of(chance, numbers, share):
    return [number for number in numbers if chance.random() < share]


def made_up_kinds(chance, many, lean):
    return tuple(int(chance.random() > lean) for _ in range(many))


def made_up_decision(chance, words, day, lean):
    side = int(chance.random() < lean)
    findings = some_of(chance, range(len(words.kinds)), chance.choice([0.3, 0.6, 0.9]))
    reason = [kind for kind in some_of(chance, findings, 0.5) if words.kinds[kind] == side]
    of = chance.randrange(max(1, len(words.above)))
    reach = [k for k in sorted(words.replay(words.told)[0])
             if of in words.higher(words.told[k]["court"]) | {words.told[k]["court"]}]
    overruled = some_of(chance, reach, 0.1)
    fault = chance.randrange(60)
    if fault == 0:
        of = len(words.above)
    elif fault == 1:
        findings = findings + [chance.randrange(12)]
    elif fault == 2:
        reason = reason + [chance.randrange(12)]
    elif fault == 3:
        overruled = overruled + [chance.randrange(30)]
    elif fault == 4:
        day = chance.choice([max(0, day - 1), 99999, 100000, FAR])
    return (of, day, side, findings[:15], reason[:15], overruled[:15])


def made_up_case(chance, words):
    """Findings, often like those of a decision, now and then unsound."""
    if words.told and chance.random() < 0.7:
        near = chance.choice(words.told)
        findings = sorted(near["reason"] | set(some_of(chance, sorted(near["found"]), 0.6)))
    else:
        findings = some_of(chance, range(len(words.kinds)), chance.choice([0, 0.3, 0.6, 1]))
    if chance.randrange(25) == 0:
        findings = findings + [chance.randrange(12)]
    return findings


def made_up_question(chance, words, asked):
    name = chance.choice(["forced", "distinguish", "may", "free", "life"])
    of, decision = chance.randrange(len(words.above) + 1), chance.randrange(len(words.told) + 1)
    if of == len(words.above) and chance.random() < 0.8:
        of = max(0, of - 1)
    findings, side = made_up_case(chance, words), chance.randrange(2)
    reason = [kind for kind in some_of(chance, findings, 0.5) if kind < len(words.kinds) and words.kinds[kind] == side]
    if chance.randrange(12) == 0:
        reason = reason + [chance.randrange(12)]
    return name, {"forced": (of, asked, findings), "distinguish": (decision, findings), "life": (decision,),
                  "may": (of, asked, side, findings, reason), "free": (of, asked, side, findings)}[name]


def made_up_call(chance, words, lean, asking):
    now = words.told[-1]["day"] if words.told else 0
    asked = chance.choice([0, now, now + 1, FAR] + [chance.randrange(now + 2) for _ in range(6)])
    if chance.random() < asking:
        return made_up_question(chance, words, asked)
    throw = chance.randrange(100)
    if throw == 0:
        return "begins", made_up_kinds(chance, chance.randrange(21), lean)
    if throw < 6:
        return "court", (chance.randrange(len(words.above) + 2),)
    if throw < 66:
        return "decide", made_up_decision(chance, words, now + chance.choice([0, 0, 1, 2]), lean)
    if throw < 83:
        return "stands", (chance.randrange(len(words.told) + 1), asked)
    return "binds", (chance.randrange(len(words.above) + 1), asked)


def made_up_line(seed, many=60):
    """The calls, spelled, the answers by the words, and what the words then hold."""
    chance, words = random.Random(seed), Words()
    lean, asking = chance.choice([0.5, 0.9]), chance.choice([0.05, 0.4])
    plan = [("begins", made_up_kinds(chance, chance.choice([0, 2, 3, 4, 10]), lean))]
    plan += [("court", (chance.randrange(k + 1),)) for k in range(chance.randrange(1, 9))]
    calls, due, frees = [], [], 0
    for step in range(many):
        name, args = plan[step] if step < len(plan) else made_up_call(chance, words, lean, asking)
        # A line has ten calls of free at the most; one is left for a question behind it.
        if name == "free" and frees == 9:
            name, args = "life", (0,)
        frees += name == "free"
        calls.append(SPELLED[name](*args))
        due.append(getattr(words, name)(*args))
    return calls, due, words


def line_hard_to_free(seed):
    """Decisions for side 1, each with some few kinds for side 0 that weren't found in it: it takes many to free."""
    chance, words = random.Random(seed), Words()
    plan = [("begins", (1, 0, 0, 0, 0, 1, 0, 0, 0, 0)), ("court", (0,)), ("court", (1,))]
    for day in range(chance.randrange(5, 30)):
        left_out = chance.sample(range(10), chance.randrange(1, 4))
        findings = [kind for kind in range(10) if kind not in left_out]
        reason = [kind for kind in (0, 5) if kind in findings and chance.random() < 0.3]
        plan.append(("decide", (chance.randrange(2), day, 1, findings, reason, ())))
    for _ in range(10):
        findings = some_of(chance, range(10), chance.choice([0, 0.1, 0.3]))
        plan.append(("free", (chance.randrange(2), chance.randrange(30), 1, sorted(set(findings) | {0, 5}))))
    return [SPELLED[name](*args) for name, args in plan], [getattr(words, name)(*args) for name, args in plan]


class AgainstTheWords(unittest.TestCase):
    @classmethod
    def setUpClass(cls):
        cls.lines = [made_up_line(seed) for seed in range(300)]

    def test_the_same_answers(self):
        for seed, (calls, due, _) in enumerate(self.lines):
            self.assertEqual(told(*calls), due, f"seed {seed}")

    def test_the_same_answers_where_it_is_hard_to_free(self):
        met = set()
        for seed in range(60):
            calls, due = line_hard_to_free(seed)
            self.assertEqual(told(*calls), due, f"seed {seed}")
            met |= {answer[0] for answer in due[-10:]}
        self.assertLessEqual({-6, 0, 1, 2, 3, 4, 5, 6}, met)

    def test_every_sort_of_answer_is_met(self):
        met = set()
        for calls, due, _ in self.lines:
            for call, answer in zip(calls, due):
                # Of the later calls the first number tells the sort, and how long the answer is.
                met.add((call[0], answer[0]) if answer[0] < 0 or call[0] > 4 else (call[0], "answered"))
                if call[0] > 4:
                    met.add((call[0], answer[0], min(len(answer), 3)))
                if call[0] == 2 and answer[0] >= 0:
                    met.add("stood" if answer[1] else "barred")
                    met.add(("took", min(len(answer) - 2, 2)))
        due = {(0, -1), (1, -2), (1, -5), (2, -2), (2, -1), (2, -4), (2, -5), (2, -6), (3, -2), (4, -2),
               "stood", "barred", ("took", 0), ("took", 1), ("took", 2),
               (5, -2), (5, -1), (5, 0), (5, 1, 2), (5, 1, 3), (5, 2, 2), (5, 2, 3),
               (6, -2), (6, -1), (6, 0, 2), (6, 0, 3), (6, 1, 2), (6, 1, 3), (6, 2),
               (7, -2), (7, -1), (7, 1), (7, 0, 2), (7, 0, 3),
               (8, -2), (8, -1), (8, -6), (8, 0), (8, 1), (8, 2),
               (9, -2), (9, 0), (9, 1), (9, 2)}
        self.assertEqual(due - met, set())


def answered_behind(calls, questions):
    """The questions' answers; a line has sixty calls at the most, so they are asked in several."""
    room = 60 - len(calls)
    answered = []
    for start in range(0, len(questions), room):
        answered += told(*calls, *questions[start:start + room])[len(calls):]
    return answered


def some_sets(numbers):
    return [list(some) for many in range(len(numbers) + 1) for some in itertools.combinations(numbers, many)]


class Promises(unittest.TestCase):
    """What is promised over the whole program, asked by the calls themselves."""

    @classmethod
    def setUpClass(cls):
        cls.lines = []
        for seed in range(1000, 1120):
            calls, _, words = made_up_line(seed, 40)
            if words.told and len(words.kinds) <= 4:
                cls.lines.append((seed, calls, words, words.told[-1]["day"]))

    def test_there_are_lines_enough(self):
        self.assertGreater(len(self.lines), 50)

    def test_what_binds_a_court_never_gainsays_itself(self):
        for seed, calls, words, day in self.lines:
            questions = [binds(of, day) for of in range(len(words.above))]
            for bound in answered_behind(calls, questions):
                for a, b in itertools.combinations(bound[1:], 2):
                    self.assertFalse(words.gainsay(words.told[a], words.told[b]), f"seed {seed}")

    def test_no_court_is_bound_both_ways(self):
        for seed, calls, words, day in self.lines:
            questions = [forced(of, asked, found) for of in range(len(words.above)) for asked in (day // 2, day)
                         for found in some_sets(range(len(words.kinds)))]
            for answered in answered_behind(calls, questions):
                sides = {words.told[k]["side"] for k in answered[1:]}
                self.assertEqual(sides, {0: set(), 1: {1}, 2: {0}}[answered[0]], f"seed {seed}")

    def test_bound_just_if_each_decision_for_the_other_side_would_gainsay(self):
        for seed, calls, words, day in self.lines[:40]:
            of = seed % len(words.above)
            for found in some_sets(range(len(words.kinds))):
                way = answered_behind(calls, [forced(of, day, found)])[0][0]
                for side in (0, 1):
                    reasons = some_sets([kind for kind in found if words.kinds[kind] != side])
                    others = answered_behind(calls, [may(of, day, 1 - side, found, reason) for reason in reasons])
                    self.assertEqual(way == 2 - side, all(other[0] == 0 for other in others), f"seed {seed}")

    def test_what_frees_a_court_and_what_does_not(self):
        for seed, calls, words, day in self.lines[:40]:
            of, side = seed % len(words.above), seed // 2 % 2
            for found in some_sets(range(len(words.kinds))):
                more = answered_behind(calls, [free(of, day, side, found)])[0]
                spare = [kind for kind in words.speaking_for(1 - side) if kind not in found]
                tried = some_sets(spare)
                ways = answered_behind(calls, [forced(of, day, sorted(found + some)) for some in tried])
                freeing = [some for some, way in zip(tried, ways) if way[0] != 2 - side]
                self.assertEqual(more, [len(freeing[0]), *freeing[0]] if freeing else [-6], f"seed {seed}")

    def test_a_lower_court_takes_nothing_from_a_higher_one(self):
        taken = 0
        for seed, calls, words, _ in self.lines:
            for number, answered in enumerate(answered_behind(calls, [life(k) for k in range(len(words.told))])):
                if answered[0] == 2:
                    taken += 1
                    own, taker = words.told[number]["court"], words.told[answered[3]]["court"]
                    self.assertIn(taker, words.higher(own) | {own}, f"seed {seed}")
        self.assertGreater(taken, 100)


if __name__ == "__main__":
    unittest.main()

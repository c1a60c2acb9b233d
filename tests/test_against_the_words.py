"""Many made-up lines of calls, answered once more by going through the document's words."""

import random
import unittest

from spelling import FAR, begins, binds, court, decide, stands, told


class Words:
    """Keeps the told decisions alone, and goes through all of them anew at each question."""

    def __init__(self):
        self.kinds, self.above, self.told = [], [], []

    def higher(self, of):
        up = self.above[of]
        return set() if up is None else {up} | self.higher(up)

    @staticmethod
    def gainsay(a, b):
        return a["side"] != b["side"] and a["reason"] <= b["found"] and b["reason"] <= a["found"]

    def replay(self, cases):
        up, fates = set(), []
        for number, case in enumerate(cases):
            if any(cases[k]["court"] in self.higher(case["court"]) and self.gainsay(cases[k], case) for k in up):
                fates.append((0, []))
                continue
            reach = {k for k in up if case["court"] in self.higher(cases[k]["court"]) | {cases[k]["court"]}}
            gone = {k for k in reach if k in case["over"] or self.gainsay(cases[k], case)}
            up = (up - gone) | {number}
            fates.append((1, sorted(gone)))
        return up, fates

    def up_on(self, day):
        return self.replay([case for case in self.told if case["day"] <= day])[0]

    def begins(self, *sides):
        if len(sides) > 10:
            return [-1]
        self.__init__()
        self.kinds = list(sides)
        return [0]

    def court(self, above):
        if above > len(self.above):
            return [-2]
        if len(self.above) == 8:
            return [-5]
        self.above.append(above - 1 if above else None)
        return [len(self.above) - 1]

    def ill_told(self, day, side, findings, reason, overruled):
        if any(list(some) != sorted(set(some)) for some in (findings, reason, overruled)):
            return True
        if not set(findings) <= set(range(len(self.kinds))) or not set(reason) <= set(findings):
            return True
        return day > 99999 or any(self.kinds[kind] != side for kind in reason)

    def decide(self, of, day, side, findings, reason, overruled):
        if of >= len(self.above):
            return [-2]
        if self.ill_told(day, side, findings, reason, overruled):
            return [-1]
        if self.told and day < self.told[-1]["day"]:
            return [-4]
        if len(self.told) == 30:
            return [-5]
        up = self.replay(self.told)[0]
        for k in overruled:
            if k not in up or of not in self.higher(self.told[k]["court"]) | {self.told[k]["court"]}:
                return [-6]
        self.told.append({"court": of, "day": day, "side": side, "found": set(findings),
                          "reason": set(reason), "over": set(overruled)})
        stood, gone = self.replay(self.told)[1][-1]
        return [len(self.told) - 1, stood] + gone

    def stands(self, decision, day):
        return [-2] if decision >= len(self.told) else [int(decision in self.up_on(day))]

    def binds(self, of, day):
        if of >= len(self.above):
            return [-2]
        bound = sorted(k for k in self.up_on(day) if self.told[k]["court"] in self.higher(of) | {of})
        return [len(bound)] + bound


SPELLED = {"begins": begins, "court": court, "decide": decide, "stands": stands, "binds": binds}


def some_of(chance, numbers, share):
    return [number for number in numbers if chance.random() < share]


def made_up_decision(chance, words, day):
    side = chance.randrange(2)
    findings = some_of(chance, range(len(words.kinds)), 0.6)
    reason = [kind for kind in some_of(chance, findings, 0.5) if words.kinds[kind] == side]
    of = chance.randrange(max(1, len(words.above)))
    reach = [k for k in sorted(words.replay(words.told)[0])
             if of in words.higher(words.told[k]["court"]) | {words.told[k]["court"]}]
    overruled = some_of(chance, reach, 0.1)
    fault = chance.randrange(60)
    if fault == 0:
        of = len(words.above)
    elif fault == 1:
        findings = findings + [chance.randrange(12)]
    elif fault == 2:
        reason = reason + [chance.randrange(12)]
    elif fault == 3:
        overruled = overruled + [chance.randrange(30)]
    elif fault == 4:
        day = chance.choice([max(0, day - 1), 99999, 100000, FAR])
    return (of, day, side, findings[:15], reason[:15], overruled[:15])


def made_up_call(chance, words):
    now = words.told[-1]["day"] if words.told else 0
    asked = chance.choice([0, now, now + 1, FAR] + [chance.randrange(now + 2) for _ in range(6)])
    throw = chance.randrange(100)
    if throw == 0:
        return "begins", tuple(chance.randrange(2) for _ in range(chance.randrange(21)))
    if throw < 6:
        return "court", (chance.randrange(len(words.above) + 2),)
    if throw < 66:
        return "decide", made_up_decision(chance, words, now + chance.choice([0, 0, 1, 2]))
    if throw < 83:
        return "stands", (chance.randrange(len(words.told) + 1), asked)
    return "binds", (chance.randrange(len(words.above) + 1), asked)


def made_up_line(seed):
    """The calls, spelled, the answers by the words, and what the words then hold."""
    chance, words = random.Random(seed), Words()
    plan = [("begins", tuple(chance.randrange(2) for _ in range(chance.choice([0, 2, 3, 4, 10]))))]
    plan += [("court", (chance.randrange(k + 1),)) for k in range(chance.randrange(1, 9))]
    calls, due = [], []
    for step in range(60):
        name, args = plan[step] if step < len(plan) else made_up_call(chance, words)
        calls.append(SPELLED[name](*args))
        due.append(getattr(words, name)(*args))
    return calls, due, words


class AgainstTheWords(unittest.TestCase):
    def test_the_same_answers(self):
        for seed in range(250):
            calls, due, _ = made_up_line(seed)
            self.assertEqual(told(*calls), due, f"seed {seed}")

    def test_every_sort_of_answer_is_met(self):
        met = set()
        for seed in range(250):
            calls, due, _ = made_up_line(seed)
            for call, answer in zip(calls, due):
                met.add((call[0], answer[0] if answer[0] < 0 else "answered"))
                if call[0] == 2 and answer[0] >= 0:
                    met.add("stood" if answer[1] else "barred")
                    met.add(("took", min(len(answer) - 2, 2)))
        due = {(0, -1), (1, -2), (1, -5), (2, -2), (2, -1), (2, -4), (2, -5), (2, -6), (3, -2), (4, -2),
               "stood", "barred", ("took", 0), ("took", 1), ("took", 2)}
        self.assertEqual(due - met, set())

    def test_what_binds_a_court_never_gainsays_itself(self):
        for seed in range(100):
            calls, _, words = made_up_line(seed)
            for of in range(len(words.above)):
                day = words.told[-1]["day"] if words.told else 0
                bound = told(*calls, binds(of, day))[-1][1:]
                for a in bound:
                    for b in bound:
                        self.assertFalse(words.gainsay(words.told[a], words.told[b]), f"seed {seed}")


if __name__ == "__main__":
    unittest.main()

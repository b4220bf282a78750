"""A book done otherwise: each question is answered anew from one list of all papers, by what its words mean.

It is slow, and refuses nothing; the tests hold what Book tells beside what it tells.
"""


class Model:

    def __init__(self, events, limits, up, wind, shares):
        self.ways = {name: way for name, way, windy in events}
        self.windy = {name: windy for name, way, windy in events}
        self.limits, self.up, self.wind, self.shares = limits, up, wind, shares
        self.history = []

    def people(self):
        return {paper[1][0]: paper[1] for paper in self.history if paper[0] == "enrol"}

    def deeds(self):
        return [paper[1:] for paper in self.history if paper[0] == "tell"]

    def last(self, word, about, known):
        """(known, order) of the last paper of a word, None where there is none."""
        found = [(paper[-1], order) for order, paper in enumerate(self.history)
                 if paper[0] == word and paper[1] == about and (known is None or paper[-1] <= known)]
        return max(found, default=(-50000, -1))

    def state(self, number, known):
        deed, since = self.deeds()[number]
        if known is not None and known < since:
            return "untold"
        if self.last("strike", number, known) > self.last("restore", number, known):
            return "struck"
        name, event, mark, day, hour, wind, course = deed
        upheld = self.last("uphold", course, known)
        for order, paper in enumerate(self.history):
            if paper[0] == "measure" and paper[1] == course and paper[2] <= day <= paper[3]:
                if (paper[4], order) > upheld and (known is None or paper[4] <= known):
                    return "course"
        return "wind" if self.windy[event] and wind > self.wind else "good"

    def counts(self, deed, event, group, place):
        name, born, own_group, team = self.people()[deed[0]]
        age = (deed[3] - born) // 365
        if deed[1] != event or group not in (None, own_group):
            return False
        last = len(self.limits)
        place = last if place is None else place
        young_enough = place == last or age < self.limits[place]
        # With up an elder class takes younger ones, too; else each is of the first class that takes it.
        return young_enough and (self.up or place == 0 or age >= self.limits[place - 1])

    def rows(self, event, group, place, known):
        """(day, hour, number, name, mark) of the good deeds that count, in their order."""
        return sorted((deed[3], deed[4], number, deed[0], deed[2]) for number, (deed, _) in enumerate(self.deeds())
                      if self.state(number, known) == "good" and self.counts(deed, event, group, place))

    def best(self, rows, event):
        return (min if self.ways[event] == "less" else max)(row[4] for row in rows)

    def stints(self, event, group, place, known):
        rows = self.rows(event, group, place, known)
        told = []
        for at, (day, hour, number, name, mark) in enumerate(rows):
            ahead = rows[:at]
            if ahead and self.best(rows[:at + 1], event) != mark:
                continue
            equal = [row for row in ahead if row[4] == mark]
            if equal and (not self.shares or name in [row[3] for row in equal]):
                continue
            better = [row for row in rows[at:] if row[4] != mark and self.best([row, rows[at]], event) == row[4]]
            told.append((number, name, mark, (day, hour), better[0][:2] if better else None))
        return told

    def holders(self, event, group, place, day, known):
        rows = [row for row in self.rows(event, group, place, known) if day is None or row[0] <= day]
        if not rows:
            return None
        mark = self.best(rows, event)
        names = [row[3] for row in rows if row[4] == mark]
        return (mark, tuple(sorted(set(names))) if self.shares else (names[0],))

    def why(self, number, event, group, place, known):
        word = self.state(number, known)
        if word != "good":
            return (word,)
        rows = self.rows(event, group, place, known)
        at = [row[2] for row in rows].index(number) if number in [row[2] for row in rows] else None
        if at is None:
            return ("other",)
        for stint in self.stints(event, group, place, known):
            if stint[0] == number:
                return ("held", *stint[3:])
        ahead = rows[:at]
        mark = self.best(ahead, event)
        return ("behind", [row[2] for row in ahead if row[4] == mark][0])

    def to_break(self, event, group, place, day, known):
        held = self.holders(event, group, place, day, known)
        less = self.ways[event] == "less"
        if held is None:
            return 10 ** 6 if less else 1
        mark = held[0] - 1 if less else held[0] + 1
        return mark if 1 <= mark <= 10 ** 6 else None

    def bests_of(self, number):
        deed = self.deeds()[number][0]
        groups = {"": None, self.people()[deed[0]][2]: self.people()[deed[0]][2]}
        return sorted((deed[1], shown, place) for shown, group in groups.items()
                      for place in range(1 + len(self.limits))
                      if number in [stint[0] for stint in self.stints(deed[1], group, place, None)])

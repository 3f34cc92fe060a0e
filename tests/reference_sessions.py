"""A second, plain account of a session: what stood ahead of each row is kept whole, and taking back takes that."""

from reference import Noted, Worth


class Account:
    """Notes lead to objects that never change; what was worked out is told by a dict of its own."""

    def __init__(self, functions):
        self.functions = dict(functions)
        self.states = [{"heads": {}, "made": (), "worths": {}, "order": (), "said": (), "rows": ()}]
        self.again = []

    @property
    def now(self):
        return self.states[-1]

    def twin(self):
        other = Account(self.functions)
        other.states, other.again = list(self.states), list(self.again)
        return other

    def go(self, row):
        self.states.append(self.behind(row))
        self.again = []

    def undo(self):
        self.again.append(self.now["rows"][-1])
        self.states.pop()

    def redo(self):
        self.states.append(self.behind(self.again[-1]))
        self.again.pop()

    def behind(self, row):
        state = {key: dict(kept) if isinstance(kept, dict) else kept for key, kept in self.now.items()}
        state["rows"] += (row,)
        heads, zero = state["heads"], Worth(0)
        if row[0] == "note":
            made = Noted(len(state["made"]), row[2], [heads.get(y, zero) for y in row[3]])
            state["made"] += (made,)
            heads[row[1]] = made
        elif row[0] == "copy":
            heads[row[1]] = heads.get(row[2], zero)
        elif row[0] == "give":
            heads[row[1]] = Worth(row[2])
        elif row[0] == "drop":
            del heads[row[1]]
        else:
            worth = self.work_out(heads.get(row[1], zero), state)
            if row[0] == "print":
                state["said"] += (worth,)
        return state

    def work_out(self, thing, state):
        """Beneath first, by a list of what is under way: chains are longer than calls may be deep."""
        ahead = [thing] if isinstance(thing, Noted) else []
        while ahead:
            note = ahead[-1]
            open_parts = [part for part in note.parts if isinstance(part, Noted) and part.number not in state["worths"]]
            if note.number in state["worths"]:
                ahead.pop()
            elif open_parts:
                ahead.append(open_parts[0])
            else:
                worth = self.functions[note.op](tuple([self.worth(part, state) for part in note.parts]))
                state["worths"][note.number] = worth
                state["order"] += (note.number,)
        return self.worth(thing, state)

    def worth(self, thing, state):
        return state["worths"][thing.number] if isinstance(thing, Noted) else thing.worth

    def tell(self, thing):
        if isinstance(thing, Noted) and thing.number not in self.now["worths"]:
            return ("note", thing.number)
        return ("worth", self.worth(thing, self.now))

    def held(self, name):
        return self.tell(self.now["heads"].get(name, Worth(0)))

    def waiting(self):
        found, ahead = {}, list(self.now["heads"].values())
        while ahead:
            thing = ahead.pop()
            if self.tell(thing)[0] == "note" and thing.number not in found:
                found[thing.number] = thing
                ahead.extend(thing.parts)
        return tuple(sorted(found))

    def note(self, number):
        if number in self.now["worths"]:
            return ("worth", self.now["worths"][number])
        if number not in self.waiting():
            return None
        made = self.now["made"][number]
        return (made.op, tuple(self.tell(part) for part in made.parts))

    def journal(self):
        found = ""
        for row in self.now["rows"]:
            kind = row[0]
            text = {"note": lambda: f"{row[1]} = {row[2]}({', '.join(row[3])})", "copy": lambda: f"{row[1]} = {row[2]}",
                    "give": lambda: f"{row[1]} = {row[2]}"}.get(kind, lambda: f"{kind} {row[1]}")()
            check = 0
            for at in range(len(text)):
                check += ord(text[at]) * (at + 1)
            found += f"{text} #{check - check // 9973 * 9973}\n"
        return found

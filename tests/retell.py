"""A second reading of [45], by what each activation has met so far."""


class Call:

    def __init__(self, unit, f, base):
        self.unit = unit
        self.f = f
        self.base = base
        # all labels that it has met
        self.met = []
        self.called_last = False


class Retelling:

    def __init__(self, readings):
        self.readings = readings
        self.opened = []

    def road(self, call):
        return self.readings[call.unit][1][call.f][call.met[-1]]

    def rounds_met(self, call, turn, met):
        """How often a round is among the labels met since its loop was begun anew."""
        roads = self.readings[call.unit][1][call.f]
        times = 0
        for k in reversed(met):
            if turn not in roads[k][2]:
                break
            times += k == turn
        return times

    def way(self, call, k, met):
        """The way at a label, if these were met up to it (the last one is itself, or it is not met yet)."""
        (_, peeled, _), roads = self.readings[call.unit]
        way = call.base
        for turn in roads[call.f][k][2]:
            if (call.f, turn, way) in peeled:
                way += (("first" if self.rounds_met(call, turn, met) == 1 else "later", call.f, turn),)
        is_out = k > 0 and roads[call.f][k - 1][2][-1:] == (k - 1,)
        if is_out and (call.f, k - 1, way) in peeled:
            way += (("later" if self.rounds_met(call, k - 1, met[:-1]) else "first", call.f, k - 1),)
        return way

    def meet(self, label):
        """What a label is written as, and the frames behind it."""
        unit, f, k = label
        ending = self.road(self.opened[-1])[1] if self.opened else None
        if ending is None:
            self.opened.append(Call(unit, f, ()))
        elif ending[0] == "call":
            caller = self.opened[-1]
            way = self.way(caller, ending[2], caller.met)
            laid, _, last = self.readings[caller.unit][0]
            back = (caller.f, ending[2], way)
            caller.called_last = caller.called_last or back in last
            self.opened.append(Call(unit, f, way + (("at", caller.f, ending[2]),) if back in laid else ()))
        elif ending[0] == "give":
            self.opened.pop()
        call = self.opened[-1]
        call.met.append(k)
        written = (f, k, self.way(call, k, call.met))
        frames = [(one.unit, one.f) for one in self.opened if one.base == () and not one.called_last]
        return (None if written in self.readings[unit][0][2] else (unit, written)), frames


def retold(readings, labels):
    """The pair of what read and frames are to tell."""
    retelling = Retelling(readings)
    told = [retelling.meet(label) for label in labels]
    return [one for one, _ in told], [two for _, two in told]

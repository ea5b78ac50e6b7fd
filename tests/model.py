"""The document once more, told another way: every move is made one by one, and nothing is worked out ahead."""


class Refused(Exception):
    pass


def need(held, refusal):
    if not held:
        raise Refused(refusal)


class Model:
    def __init__(self):
        self.gone = []
        self.flight_of = []
        self.stands = []
        self.bags = []
        self.boxes = []
        self.made = 0

    def answer(self, call):
        try:
            return ASKED[call[0]](self, *call[1:])
        except Refused as refusal:
            return [refusal.args[0]]

    def put_on_top(self, bag, box):
        self.boxes[box]["pile"].append(bag)
        self.bags[bag]["place"] = "loaded"
        self.made += 1

    def take_topmost(self, box):
        bag = self.boxes[box]["pile"].pop()
        self.bags[bag]["place"] = "hall"
        self.made += 1
        return bag

    def get_out(self, box, wanted):
        before = self.made
        taken = []
        while set(self.boxes[box]["pile"]) & set(wanted):
            taken.append(self.take_topmost(box))
        while taken:
            bag = taken.pop()
            if bag not in wanted:
                self.put_on_top(bag, box)
        return self.made - before

    def box_of(self, bag):
        return [number for number, box in enumerate(self.boxes) if bag in box["pile"]][0]

    def boxes_on(self, flight):
        return [number for number, box in enumerate(self.boxes) if box["flight"] == flight]

    def lying_on(self, flight):
        return [bag for box in self.boxes_on(flight) for bag in self.boxes[box]["pile"]]

    def stands_of_owner(self, bag):
        return self.stands[self.bags[bag]["owner"]]

    def not_to_fly(self, flight):
        return [
            bag for bag in self.lying_on(flight)
            if not self.bags[bag]["follows"] and self.stands_of_owner(bag) not in ("aboard", "flown")
        ]

    def to_come_out(self, box):
        return [
            bag for bag in self.boxes[box]["pile"]
            if not self.bags[bag]["follows"] and self.stands_of_owner(bag) == "not coming"
        ]

    def need_flight(self, flight):
        need(flight < len(self.gone), -2)

    def need_person(self, person):
        need(person < len(self.stands), -2)

    def need_bag(self, bag):
        need(bag < len(self.bags), -2)

    def need_box(self, box):
        need(box < len(self.boxes), -2)

    def flight(self):
        need(len(self.gone) < 8, -5)
        self.gone.append(False)
        return [len(self.gone) - 1]

    def box(self, flight, room, heavy):
        self.need_flight(flight)
        need(not self.gone[flight], -4)
        need(room in range(1, 21) and heavy in range(1, 2001), -1)
        need(len(self.boxes) < 12, -5)
        self.boxes.append({"flight": flight, "room": room, "heavy": heavy, "pile": []})
        return [len(self.boxes) - 1]

    def person(self, flight):
        self.need_flight(flight)
        need(not self.gone[flight], -4)
        need(len(self.stands) < 40, -5)
        self.flight_of.append(flight)
        self.stands.append("expected")
        return [len(self.stands) - 1]

    def bag(self, owner, weight):
        self.need_person(owner)
        need(not self.gone[self.flight_of[owner]], -4)
        need(weight in range(1, 101), -1)
        need(len(self.bags) < 60, -5)
        self.bags.append({"owner": owner, "weight": weight, "place": "hall", "follows": False})
        return [len(self.bags) - 1]

    def load(self, bag, box):
        self.need_bag(bag)
        self.need_box(box)
        told, within = self.bags[bag], self.boxes[box]
        need(told["place"] == "hall" and not self.gone[within["flight"]], -4)
        need(told["follows"] or self.flight_of[told["owner"]] == within["flight"], -7)
        need(told["follows"] or self.stands_of_owner(bag) != "not coming", -6)
        need(len(within["pile"]) + 1 <= within["room"], -5)
        need(self.weight(within["pile"] + [bag]) <= within["heavy"], -5)
        self.put_on_top(bag, box)
        return [len(within["pile"])]

    def weight(self, bags):
        return sum(self.bags[bag]["weight"] for bag in bags)

    def changed(self, person, before, after):
        self.need_person(person)
        need(not self.gone[self.flight_of[person]] and self.stands[person] == before, -4)
        self.stands[person] = after
        return [len(self.not_to_fly(self.flight_of[person]))]

    def aboard(self, person):
        return self.changed(person, "expected", "aboard")

    def leaves(self, person):
        return self.changed(person, "aboard", "not coming")

    def absent(self, person):
        return self.changed(person, "expected", "not coming")

    def rush(self, bag):
        self.need_bag(bag)
        need(self.bags[bag]["place"] == "hall" and not self.bags[bag]["follows"], -4)
        need(self.stands_of_owner(bag) == "flown", -7)
        self.bags[bag]["follows"] = True
        return [0]

    def out(self, bag):
        self.need_bag(bag)
        need(self.bags[bag]["place"] == "loaded", -4)
        return [self.get_out(self.box_of(bag), [bag])]

    def cleared(self, flight):
        self.need_flight(flight)
        need(not self.gone[flight], -4)
        count = 0
        came_out = []
        for box in self.boxes_on(flight):
            wanted = self.to_come_out(box)
            count += self.get_out(box, wanted)
            came_out += wanted
        return count, came_out

    def moves(self, flight):
        piles = [list(box["pile"]) for box in self.boxes]
        bags = [dict(bag) for bag in self.bags]
        made = self.made
        count = self.cleared(flight)[0]
        for box, pile in zip(self.boxes, piles):
            box["pile"] = pile
        self.bags = bags
        self.made = made
        return [count]

    def clear(self, flight):
        count, came_out = self.cleared(flight)
        return [count, len(came_out)] + came_out

    def goes(self, flight):
        self.need_flight(flight)
        need(not self.gone[flight], -4)
        need(not self.not_to_fly(flight), -6)
        self.gone[flight] = True
        for bag in self.lying_on(flight):
            self.bags[bag]["place"] = "flown"
        for person, on in enumerate(self.flight_of):
            if on == flight and self.stands[person] == "aboard":
                self.stands[person] = "flown"
        return [len(self.lying_on(flight))]

    def hand(self, bag):
        self.need_bag(bag)
        need(self.bags[bag]["place"] == "hall", -4)
        need(self.stands_of_owner(bag) == "not coming", -7)
        self.bags[bag]["place"] = "handed out"
        return [0]

    def waits(self, flight):
        self.need_flight(flight)
        need(not self.gone[flight], -4)
        waiting = self.not_to_fly(flight)
        return [len(waiting), len(waiting)] + waiting

    def next_on(self, person, flight):
        self.need_person(person)
        self.need_flight(flight)
        need(not self.gone[flight] and self.stands[person] not in ("aboard", "flown"), -4)
        need((person, "loaded") not in [(bag["owner"], bag["place"]) for bag in self.bags], -6)
        self.flight_of[person] = flight
        self.stands[person] = "expected"
        return [0]

    def where(self, bag):
        self.need_bag(bag)
        place = PLACES.index(self.bags[bag]["place"])
        if place in (0, 3):
            return [place, 0]
        box = self.box_of(bag)
        return [place, 2, box, self.boxes[box]["pile"].index(bag)]

    def list_of(self, box):
        self.need_box(box)
        pile = self.boxes[box]["pile"]
        return [self.weight(pile), len(pile)] + pile

    def state(self):
        persons = [
            number for flight, stands in zip(self.flight_of, self.stands)
            for number in (flight, {"expected": 0, "aboard": 1, "flown": 1, "not coming": 2}[stands])
        ]
        bags = [
            number for bag in self.bags
            for number in (bag["owner"], bag["weight"], PLACES.index(bag["place"]), 1 if bag["follows"] else 0)
        ]
        boxes = [
            number for box in self.boxes for number in (box["flight"], box["room"], box["heavy"], len(box["pile"]))
        ]
        gone = [1 if gone else 0 for gone in self.gone]
        return [self.made, len(gone)] + gone + [len(persons)] + persons + [len(bags)] + bags + [len(boxes)] + boxes


PLACES = ["hall", "loaded", "flown", "handed out"]
ASKED = [
    Model.flight, Model.box, Model.person, Model.bag, Model.load, Model.aboard, Model.leaves, Model.absent, Model.rush,
    Model.out, Model.moves, Model.clear, Model.goes, Model.hand, Model.waits, Model.next_on, Model.where, Model.list_of,
    Model.state,
]

"""An airport: flights, passengers, bags, and the containers in which bags lie one upon another."""

# Refusals, as they are answered.
WRONG_SIZE = -1
NO_SUCH = -2
NOT_SO = -4
NO_ROOM = -5
NOT_LET = -6
WRONG_OWNER = -7

MOST_FLIGHTS = 8
MOST_CONTAINERS = 12
MOST_PASSENGERS = 40
MOST_BAGS = 60
MOST_BAGS_WITHIN = 20
MOST_WEIGHT_WITHIN = 2000
MOST_BAG_WEIGHT = 100

# How a passenger stands to their flight.
EXPECTED = 0
ABOARD = 1
NOT_COMING = 2

# Where a bag is.
HALL = 0
LOADED = 1
FLOWN = 2
HANDED_OUT = 3


class Flight:
    def __init__(self):
        self.gone = False


class Container:
    def __init__(self, flight, room, limit):
        self.flight = flight
        self.room = room
        self.limit = limit
        # Numbers of bags, the lowest first.
        self.pile = []


class Passenger:
    def __init__(self, flight):
        self.flight = flight
        self.standing = EXPECTED


class Bag:
    def __init__(self, owner, weight):
        self.owner = owner
        self.weight = weight
        self.place = HALL
        # The number of the one in which it is loaded or has flown.
        self.container = None
        self.follows = False


class Airport:
    def __init__(self):
        self.flights = []
        self.containers = []
        self.passengers = []
        self.bags = []
        self.moves_made = 0


def is_size(number, most):
    return 1 <= number <= most


def has_flown(airport, passenger):
    return passenger.standing == ABOARD and airport.flights[passenger.flight].gone


def may_fly(airport, bag):
    return bag.follows or airport.passengers[bag.owner].standing == ABOARD


def has_to_come_out(airport, bag):
    return not bag.follows and airport.passengers[bag.owner].standing == NOT_COMING


def weight_within(airport, container):
    return sum([airport.bags[number].weight for number in container.pile])


def has_room_for(airport, container, bag):
    if len(container.pile) >= container.room:
        return False
    return weight_within(airport, container) + bag.weight <= container.limit


def containers_on_flight(airport, flight):
    return [container for container in airport.containers if container.flight == flight]


def bags_on_flight(airport, flight):
    found = []
    for container in containers_on_flight(airport, flight):
        found.extend(container.pile)
    return found


def bags_that_may_not_fly(airport, flight):
    return [number for number in bags_on_flight(airport, flight) if not may_fly(airport, airport.bags[number])]


def bags_to_get_out(airport, container):
    return [number for number in container.pile if has_to_come_out(airport, airport.bags[number])]


# What is wanted is told from the lowest up, here and below.
def moves_to_get_out(container, wanted):
    if not wanted:
        return 0
    taken = len(container.pile) - container.pile.index(wanted[0])
    # All that is taken out goes in again, but for what is wanted.
    return taken + taken - len(wanted)


def get_out(airport, container, wanted):
    # The moves depend on how the bags lie, so they are counted ahead of the change.
    moves = moves_to_get_out(container, wanted)
    container.pile = [number for number in container.pile if number not in wanted]
    for number in wanted:
        bag = airport.bags[number]
        bag.place = HALL
        bag.container = None
    airport.moves_made += moves
    return moves


def with_count(numbers):
    return [len(numbers)] + numbers


def add_flight(airport, told):
    if len(airport.flights) >= MOST_FLIGHTS:
        return [NO_ROOM]
    airport.flights.append(Flight())
    return [len(airport.flights) - 1]


def add_container(airport, told):
    flight = told[0]
    room = told[1]
    limit = told[2]
    if airport.flights[flight].gone:
        return [NOT_SO]
    if not is_size(room, MOST_BAGS_WITHIN) or not is_size(limit, MOST_WEIGHT_WITHIN):
        return [WRONG_SIZE]
    if len(airport.containers) >= MOST_CONTAINERS:
        return [NO_ROOM]
    airport.containers.append(Container(flight, room, limit))
    return [len(airport.containers) - 1]


def add_passenger(airport, told):
    flight = told[0]
    if airport.flights[flight].gone:
        return [NOT_SO]
    if len(airport.passengers) >= MOST_PASSENGERS:
        return [NO_ROOM]
    airport.passengers.append(Passenger(flight))
    return [len(airport.passengers) - 1]


def add_bag(airport, told):
    owner = told[0]
    weight = told[1]
    if airport.flights[airport.passengers[owner].flight].gone:
        return [NOT_SO]
    if not is_size(weight, MOST_BAG_WEIGHT):
        return [WRONG_SIZE]
    if len(airport.bags) >= MOST_BAGS:
        return [NO_ROOM]
    airport.bags.append(Bag(owner, weight))
    return [len(airport.bags) - 1]


def load_bag(airport, told):
    bag = airport.bags[told[0]]
    container = airport.containers[told[1]]
    owner = airport.passengers[bag.owner]
    if bag.place != HALL or airport.flights[container.flight].gone:
        return [NOT_SO]
    if not bag.follows and owner.flight != container.flight:
        return [WRONG_OWNER]
    if not bag.follows and owner.standing == NOT_COMING:
        return [NOT_LET]
    if not has_room_for(airport, container, bag):
        return [NO_ROOM]
    container.pile.append(told[0])
    bag.place = LOADED
    bag.container = told[1]
    airport.moves_made += 1
    return [len(container.pile)]


def change_standing(airport, number, before, after):
    passenger = airport.passengers[number]
    if airport.flights[passenger.flight].gone or passenger.standing != before:
        return [NOT_SO]
    passenger.standing = after
    return [len(bags_that_may_not_fly(airport, passenger.flight))]


def come_aboard(airport, told):
    return change_standing(airport, told[0], EXPECTED, ABOARD)


def leave_aircraft(airport, told):
    return change_standing(airport, told[0], ABOARD, NOT_COMING)


def stay_absent(airport, told):
    return change_standing(airport, told[0], EXPECTED, NOT_COMING)


def rush_bag(airport, told):
    bag = airport.bags[told[0]]
    if bag.place != HALL or bag.follows:
        return [NOT_SO]
    if not has_flown(airport, airport.passengers[bag.owner]):
        return [WRONG_OWNER]
    bag.follows = True
    return [0]


def take_bag_out(airport, told):
    bag = airport.bags[told[0]]
    if bag.place != LOADED:
        return [NOT_SO]
    return [get_out(airport, airport.containers[bag.container], [told[0]])]


def count_moves(airport, told):
    flight = told[0]
    if airport.flights[flight].gone:
        return [NOT_SO]
    moves = 0
    for container in containers_on_flight(airport, flight):
        moves += moves_to_get_out(container, bags_to_get_out(airport, container))
    return [moves]


def clear_flight(airport, told):
    flight = told[0]
    if airport.flights[flight].gone:
        return [NOT_SO]
    moves = 0
    came_out = []
    for container in containers_on_flight(airport, flight):
        wanted = bags_to_get_out(airport, container)
        moves += get_out(airport, container, wanted)
        came_out.extend(wanted)
    return [moves] + with_count(came_out)


def let_go(airport, told):
    flight = airport.flights[told[0]]
    if flight.gone:
        return [NOT_SO]
    if bags_that_may_not_fly(airport, told[0]):
        return [NOT_LET]
    flight.gone = True
    flying = bags_on_flight(airport, told[0])
    for number in flying:
        bag = airport.bags[number]
        bag.place = FLOWN
    return [len(flying)]


def hand_out(airport, told):
    bag = airport.bags[told[0]]
    if bag.place != HALL:
        return [NOT_SO]
    if airport.passengers[bag.owner].standing != NOT_COMING:
        return [WRONG_OWNER]
    bag.place = HANDED_OUT
    return [0]


def tell_waiting(airport, told):
    flight = told[0]
    if airport.flights[flight].gone:
        return [NOT_SO]
    waiting = bags_that_may_not_fly(airport, flight)
    return [len(waiting)] + with_count(waiting)


def has_loaded_bag(airport, owner):
    return any([bag.owner == owner and bag.place == LOADED for bag in airport.bags])


def change_flight(airport, told):
    passenger = airport.passengers[told[0]]
    flight = told[1]
    # Who has flown is still aboard.
    if airport.flights[flight].gone or passenger.standing == ABOARD:
        return [NOT_SO]
    if has_loaded_bag(airport, told[0]):
        return [NOT_LET]
    passenger.flight = flight
    passenger.standing = EXPECTED
    return [0]


def tell_place(airport, told):
    bag = airport.bags[told[0]]
    if bag.container is None:
        return [bag.place] + with_count([])
    below = airport.containers[bag.container].pile.index(told[0])
    return [bag.place] + with_count([bag.container, below])


def tell_pile(airport, told):
    container = airport.containers[told[0]]
    return [weight_within(airport, container)] + with_count(container.pile)


def tell_state(airport, told):
    flights = [int(flight.gone) for flight in airport.flights]
    passengers = []
    for passenger in airport.passengers:
        passengers.extend([passenger.flight, passenger.standing])
    bags = []
    for bag in airport.bags:
        bags.extend([bag.owner, bag.weight, bag.place, int(bag.follows)])
    containers = []
    for container in airport.containers:
        containers.extend([container.flight, container.room, container.limit, len(container.pile)])
    lists = with_count(flights) + with_count(passengers) + with_count(bags) + with_count(containers)
    return [airport.moves_made] + lists


# By the call's number: what does it, and what each of its numbers tells.
CALLS = (
    (add_flight, ()),
    (add_container, ("flight", "size", "size")),
    (add_passenger, ("flight",)),
    (add_bag, ("passenger", "size")),
    (load_bag, ("bag", "container")),
    (come_aboard, ("passenger",)),
    (leave_aircraft, ("passenger",)),
    (stay_absent, ("passenger",)),
    (rush_bag, ("bag",)),
    (take_bag_out, ("bag",)),
    (count_moves, ("flight",)),
    (clear_flight, ("flight",)),
    (let_go, ("flight",)),
    (hand_out, ("bag",)),
    (tell_waiting, ("flight",)),
    (change_flight, ("passenger", "flight")),
    (tell_place, ("bag",)),
    (tell_pile, ("container",)),
    (tell_state, ()),
)


def is_there(airport, kind, number):
    if kind == "flight":
        return number < len(airport.flights)
    if kind == "container":
        return number < len(airport.containers)
    if kind == "passenger":
        return number < len(airport.passengers)
    if kind == "bag":
        return number < len(airport.bags)
    # A size tells of nothing that could be missing.
    return True


def answer_call(airport, call, told):
    act = CALLS[call][0]
    for kind, number in zip(CALLS[call][1], told):
        if not is_there(airport, kind, number):
            return [NO_SUCH]
    return act(airport, told)


def answers(calls):
    airport = Airport()
    given = []
    start = 0
    while start < len(calls):
        call = calls[start]
        end = start + 1 + len(CALLS[call][1])
        answer = answer_call(airport, call, calls[start + 1:end])
        given.append(len(answer))
        given.extend(answer)
        start = end
    return given

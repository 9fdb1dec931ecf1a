"""What a house keeps: people, grounds, stores, records with their copies, and holds."""


class House:
    def __init__(self):
        self.today = 0
        self.main = Store("main", "main", 0)
        self.people = {}
        self.grounds = {}
        self.stores = {}
        self.records = []
        self.holds = {}


class Person:
    def __init__(self, name):
        self.name = name
        self.consents = {}
        self.objects = False
        # The day on which their matter ended; None while it goes on.
        self.ended = None


class Ground:
    def __init__(self, name, kind, basis, purpose, span, event):
        self.name = name
        self.kind = kind
        # law, need or for; only the last has a purpose.
        self.basis = basis
        self.purpose = purpose
        self.span = span
        # made, used or ended: what the span is counted from.
        self.event = event


class Store:
    def __init__(self, name, way, turn):
        self.name = name
        # main, roll or other; only one that's rolled over has a turn, only another house may be deaf.
        self.way = way
        self.turn = turn
        self.hears = True


class Copy:
    def __init__(self, store):
        self.store = store
        # there, going, asked or gone; the day goes with the last three.
        self.state = "there"
        self.day = None


class Record:
    def __init__(self, number, person, kind, sources, house):
        self.number = number
        self.person = person
        self.kind = kind
        self.made = house.today
        self.used = house.today
        # The records of which it was made; their numbers are always below its own.
        self.sources = sources
        # The day on which it was let go; None while it's there.
        self.gone_on = None
        self.copies = [Copy(house.main)]


class Hold:
    def __init__(self, name, person, kind):
        self.name = name
        self.person = person
        # A kind, or any.
        self.kind = kind

"""What a cold store is made of."""


class Chamber:
    def __init__(self, aim, power, places):
        self.aim = aim
        self.warmth = aim
        self.power = power
        self.frost = 0
        self.door_open = 0
        self.thaw_hours = 0
        self.places = places


class Kind:
    def __init__(self, limit, bears, life):
        self.limit = limit
        self.bears = bears
        self.life = life


class Lot:
    def __init__(self, kind_number, pallets, core, chamber_number):
        self.kind_number = kind_number
        self.pallets = pallets
        self.core = core
        self.chamber_number = chamber_number
        self.harm = 0
        self.age = 0


class Store:
    def __init__(self):
        self.begun = False
        self.lay_out(0, 0)

    def lay_out(self, most, outside):
        self.most = most
        self.outside = outside
        self.mains = 1
        self.hour = 0
        self.chambers = []
        self.kinds = []
        # Emptied lots stay here, for a lot's number is never given again.
        self.lots = []
        self.came = 0
        self.went_out = 0
        self.thrown = 0
        self.cooled = 0

"""What is wrong with bytes that are read, and where."""


class PlacedFault(ValueError):

    def __init__(self, fault, place):
        self.fault = fault
        self.place = place


class ContainerFault(PlacedFault):
    pass


class TableFault(PlacedFault):
    pass


class NotPacked(ValueError):
    pass

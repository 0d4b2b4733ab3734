"""A house made anew from its deeds."""

from rotstacks.house import House


def do_deed(house, deed):
    word = deed[0]
    if word == "put":
        house.put(deed[1], deed[2], deed[3])
    elif word == "tell":
        house.tell(deed[1], deed[2], deed[3])
    elif word == "go":
        house.go(deed[1])
    else:
        house.dry()


def walked(many, deeds):
    house = House(many)
    for deed in deeds:
        do_deed(house, deed)
    return house

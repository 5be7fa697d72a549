"""Names of letters, and what the clocks and stamps tell of them."""


def name_of(letter):
    sender = letter[0]
    stamp = letter[1]
    return (sender, stamp[sender])


def is_there(name, clock):
    return clock[name[0]] >= name[1]


def counted(clock, sender):
    return clock[:sender] + (clock[sender] + 1,) + clock[sender + 1:]


def ready(letter, clock):
    sender = letter[0]
    stamp = letter[1]
    if stamp[sender] != clock[sender] + 1:
        return False
    others = [office for office in range(len(clock)) if office != sender]
    return all([stamp[office] <= clock[office] for office in others])


# Names are compared, not whole letters: letters of one name may have unlike stamps here.
def before(one, other):
    return name_of(one) != name_of(other) and is_there(name_of(one), other[1])


def beside(one, other):
    if name_of(one) == name_of(other):
        return False
    return not before(one, other) and not before(other, one)

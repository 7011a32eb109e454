"""Texts that the tests share, and how they are put together."""

from racecards.cards import judge, one_text

DAY = "day monday\n"
RACE = "race 8\n"
POOL = "pool win place 1 from 1 take 150 break 10 least 100 unit 100 none refund\n"
SMALL = DAY + RACE + POOL

MIXED = (
    "day d\n"
    "race 24 couple 2 9 couple 1 4 couple 2 3 couple 20 24\n"
    "race 2 couple 1 2\n"
    "race 10\n"
    "pool d place 4 from 1 take 0 break 1 least 0 unit 1 none carry\n"
    "pool ex2 order 2 from 3 take 400 break 1000 least 20000 unit 10000 none fewer\n"
    "pool tr1f3cta any 3 from 1 take 7 break 50 least 150 unit 100 none refund\n"
    "pool p6 legs 2 from 2 take 250 break 5 least 2 unit 1 none carry\n"
    "pool w place 1 from 2 take 1 break 1 least 0 unit 10000 none refund\n"
)
MIXED_ONE = MIXED.replace(
    "couple 2 9 couple 1 4 couple 2 3 couple 20 24", "couple 2 3 couple 1 4 couple 2 9 couple 20 24"
)

EIGHT_COUPLES = " ".join(f"couple {a} {a + 12}" for a in range(1, 9))
KINDS = ("place 2", "order 4", "any 3", "legs 6")
NONES = ("refund", "carry", "refund", "fewer")


def large():
    """The most that a card may have of everything."""
    races = f"race 24 {EIGHT_COUPLES}\n" * 16
    pools = "".join(
        f"pool abcdefghij{number:02} {KINDS[number % 4]} from {number % 11 + 1}"
        f" take 400 break 1000 least 20000 unit 10000 none {NONES[number % 4]}\n"
        for number in range(64)
    )
    return "day abcdefghijkl\n" + races + pools


def row(text):
    """The list of bytes of a text."""
    return list(text.encode("latin-1"))


def judged(text):
    return judge(row(text))


def written(text):
    """What one_text answers, its bytes shown as a text."""
    answer = one_text(row(text))
    return [answer[0], bytes(answer[1:]).decode("latin-1")]


def pool(name="win", kind="place", k=1, race=1, take=150, brk=10, least=100, unit=100, none="refund"):
    return (
        f"pool {name} {kind} {k} from {race} take {take} break {brk}"
        f" least {least} unit {unit} none {none}\n"
    )


# A text of each kind of fault, each with as much of a card in front of it as there may be.
FAULTS = {
    1: SMALL + "pool ex",
    2: SMALL + "\n",
    3: SMALL + RACE,
    4: SMALL + pool(name="ex", take=401),
    5: SMALL + POOL,
    6: DAY + RACE * 17,
    7: DAY + "race 2 couple 1 2\n" + POOL + pool(name="ex", k=2),
    8: DAY,
}
# The card in front of it would be one by itself.
TOO_LONG = SMALL + "x" * (65537 - len(SMALL))

"""The refusals: each is a HealError, none stands under another one, each is made of a text."""


class HealError(ValueError):
    pass


class NoSize(HealError):
    pass


class NoCore(HealError):
    pass


class NoPlace(HealError):
    pass


class NoNet(HealError):
    pass


class NoLoss(HealError):
    pass


class NoNumber(HealError):
    pass


class NoRoad(HealError):
    pass


class NoTurn(HealError):
    pass


class NoCode(HealError):
    pass


class NoData(HealError):
    pass


class NoCame(HealError):
    pass


class TooMany(HealError):
    pass


class NoSeals(HealError):
    pass


class NoPlan(HealError):
    pass


class NoSign(HealError):
    pass


class Clash(HealError):
    pass


class NoDeed(HealError):
    pass


class NoText(HealError):
    pass


class NoRow(HealError):
    pass


class NoName(HealError):
    pass

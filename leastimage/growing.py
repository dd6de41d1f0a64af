"""When one book is larger than another one."""


def grows(big, book):
    """Whether big is larger than book."""
    # Names of units are different, so equal units can only be namesakes.
    if [unit for unit in big.units() if unit.name in book] != book.units():
        return False
    answered = [name for name in book.known() if book.answer(name) is not None]
    return all([big.answer(name) == book.answer(name) for name in answered])

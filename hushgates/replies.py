"""How one call's answer is handed back."""


def reply(number, row, numbers):
    """The number, how many bytes are told and they, how many numbers and they."""
    return [number, len(row)] + row + [len(numbers)] + numbers


def refusal(number):
    return reply(number, [], [])

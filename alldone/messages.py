"""What a machine says to another: 40 bytes, with their check."""

MOST_MACHINES = 16

ALL_ONES = 0xFFFFFFFF
POLYNOMIAL = 0x82F63B78

# Whether an errand goes with the message, its number and its task.
NO_ERRAND = (0, 0, 0)
# Whether the machine rested, how many errands it had sent and how many taken.
NO_REPORT = (0, 0, 0)


def low_byte_first(number, size):
    return [(number >> (8 * place)) & 255 for place in range(size)]


def number_of(numbers):
    """The number whose bytes these are, the low byte first."""
    return sum([number << (8 * place) for place, number in enumerate(numbers)])


def check_step(check):
    if check & 1:
        return (check >> 1) ^ POLYNOMIAL
    return check >> 1


def check_of(numbers):
    """CRC-32C of a list of bytes."""
    check = ALL_ONES
    for number in numbers:
        check = check ^ number
        for bit in range(8):
            check = check_step(check)
    return check ^ ALL_ONES


def message_of(me, to, taken, errand, wave, report):
    """The 40 bytes; errand and report are formed like NO_ERRAND and NO_REPORT."""
    message = [me, to, errand[0], report[0]]
    message.extend(low_byte_first(taken, 4))
    message.extend(low_byte_first(errand[1], 4))
    message.extend(low_byte_first(errand[2], 4))
    message.extend(low_byte_first(wave, 4))
    message.extend(low_byte_first(report[1], 8))
    message.extend(low_byte_first(report[2], 8))
    message.extend(low_byte_first(check_of(message), 4))
    return message


def is_right(message):
    if check_of(message[:36]) != number_of(message[36:]):
        return False
    if message[0] >= MOST_MACHINES or message[1] >= MOST_MACHINES:
        return False
    if message[2] > 1 or message[3] > 1:
        return False
    return message[2] == 1 or not any(message[8:16])


class Message:
    """What the 40 bytes say; errand and report are formed like NO_ERRAND and NO_REPORT."""

    def __init__(self, numbers):
        self.sender = numbers[0]
        self.to = numbers[1]
        self.taken = number_of(numbers[4:8])
        self.errand = (numbers[2], number_of(numbers[8:12]), number_of(numbers[12:16]))
        self.wave = number_of(numbers[16:20])
        self.report = (numbers[3], number_of(numbers[20:28]), number_of(numbers[28:36]))

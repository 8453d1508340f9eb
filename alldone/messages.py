"""What a machine says to another: 40 bytes, with their check."""

ALL_ONES = 0xFFFFFFFF
POLYNOMIAL = 0x82F63B78

# Whether an errand goes with the message, its number and its task.
NO_ERRAND = (0, 0, 0)
# Whether the machine rested, how many errands it had sent and how many taken.
NO_REPORT = (0, 0, 0)


def low_byte_first(number, size):
    return [(number >> (8 * place)) & 255 for place in range(size)]


def check_step(check):
    if check & 1:
        return (check >> 1) ^ POLYNOMIAL
    return check >> 1


def check_of(numbers):
    """CRC-32C of a list of bytes."""
    check = ALL_ONES
    for number in numbers:
        check = check ^ number
        for bit in range(8):
            check = check_step(check)
    return check ^ ALL_ONES


def message_of(me, to, taken, errand, wave, report):
    """The 40 bytes; errand and report are formed like NO_ERRAND and NO_REPORT."""
    message = [me, to, errand[0], report[0]]
    message.extend(low_byte_first(taken, 4))
    message.extend(low_byte_first(errand[1], 4))
    message.extend(low_byte_first(errand[2], 4))
    message.extend(low_byte_first(wave, 4))
    message.extend(low_byte_first(report[1], 8))
    message.extend(low_byte_first(report[2], 8))
    message.extend(low_byte_first(check_of(message), 4))
    return message

"""What the texts that are written and those that are read share: digits, and powers of ten."""

DECIMAL = "0123456789"
HEXADECIMAL = "0123456789abcdef"


# A power of ten is this one shifted by n.
def power_of_five(n):
    result = 1
    for place in range(n.bit_length() - 1, -1, -1):
        result = result * result
        if (n >> place) & 1 == 1:
            result = result * 5
    return result

"""Limits that hold over the whole program."""

# 2 ** 48: addresses lie below it.
ADDRESS_END = 281474976710656

# 2 ** 64: what is told is taken modulo this.
COUNT_END = 18446744073709551616

MOST_RECORDS = 65536
MOST_SIZE = 4096

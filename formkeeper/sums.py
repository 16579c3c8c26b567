"""The sum of octets."""

# At n, the remainder that four bits with the value n leave when they are shifted out of the sum:
# taking four bits at a time, an octet needs two looks into this table instead of eight steps.
REMAINDERS = (
    0, 79764919, 159529838, 222504665, 319059676, 398814059, 445009330, 507990021,
    638119352, 583659535, 797628118, 726387553, 890018660, 835552979, 1015980042, 944750013,
)


def sum_of(octets):
    """Returns the sum of octets."""
    total = 0
    for octet in octets:
        total = total ^ (octet << 24)
        for _ in range(2):
            total = ((total & 268435455) << 4) ^ REMAINDERS[total >> 28]
    return total

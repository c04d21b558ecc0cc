"""What the log and the proofs are both held to."""

MOST_BYTES = 65536

TOO_LONG = -1

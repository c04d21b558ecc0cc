"""The digest by itself."""

from growlog.bounds import MOST_BYTES, TOO_LONG
from growlog.sha256 import digest_of


def digest(m):
    if len(m) > MOST_BYTES:
        return [TOO_LONG]
    return [0] + digest_of(m)

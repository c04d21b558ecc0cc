"""The digest: SHA-256, as FIPS 180-4 tells it."""

# The greatest word: & WORD cuts a sum to 32 bits.
WORD = 4294967295

START = (
    0x6A09E667, 0xBB67AE85, 0x3C6EF372, 0xA54FF53A,
    0x510E527F, 0x9B05688C, 0x1F83D9AB, 0x5BE0CD19,
)

ROUNDS = (
    0x428A2F98, 0x71374491, 0xB5C0FBCF, 0xE9B5DBA5,
    0x3956C25B, 0x59F111F1, 0x923F82A4, 0xAB1C5ED5,
    0xD807AA98, 0x12835B01, 0x243185BE, 0x550C7DC3,
    0x72BE5D74, 0x80DEB1FE, 0x9BDC06A7, 0xC19BF174,
    0xE49B69C1, 0xEFBE4786, 0x0FC19DC6, 0x240CA1CC,
    0x2DE92C6F, 0x4A7484AA, 0x5CB0A9DC, 0x76F988DA,
    0x983E5152, 0xA831C66D, 0xB00327C8, 0xBF597FC7,
    0xC6E00BF3, 0xD5A79147, 0x06CA6351, 0x14292967,
    0x27B70A85, 0x2E1B2138, 0x4D2C6DFC, 0x53380D13,
    0x650A7354, 0x766A0ABB, 0x81C2C92E, 0x92722C85,
    0xA2BFE8A1, 0xA81A664B, 0xC24B8B70, 0xC76C51A3,
    0xD192E819, 0xD6990624, 0xF40E3585, 0x106AA070,
    0x19A4C116, 0x1E376C08, 0x2748774C, 0x34B0BCB5,
    0x391C0CB3, 0x4ED8AA4A, 0x5B9CCA4F, 0x682E6FF3,
    0x748F82EE, 0x78A5636F, 0x84C87814, 0x8CC70208,
    0x90BEFFFA, 0xA4506CEB, 0xBEF9A3F7, 0xC67178F2,
)


def digest_of(message):
    whole = padded(message)
    state = list(START)
    for place in range(0, len(whole), 64):
        state = after_block(state, words_at(whole, place))
    return bytes_of(state)


def padded(message):
    bits = 8 * len(message)
    length = [(bits >> shift) & 255 for shift in (56, 48, 40, 32, 24, 16, 8, 0)]
    # 55: the byte 128 and the eight of the length are to end a block of 64.
    zeros = [0] * ((55 - len(message)) % 64)
    return message + [128] + zeros + length


def words_at(whole, place):
    return [
        (whole[k] << 24) | (whole[k + 1] << 16) | (whole[k + 2] << 8) | whole[k + 3]
        for k in range(place, place + 64, 4)
    ]


def bytes_of(state):
    numbers = []
    for word in state:
        numbers.extend([word >> 24, (word >> 16) & 255, (word >> 8) & 255, word & 255])
    return numbers


# Written twice in a row and shifted right by k, a word has its turn by k in the
# low 32 bits. What stands above them falls away where the sum is cut to a word.
# No def of its own turns a word: it would be called some hundred times a block.
def after_block(state, words):
    mixed = schedule(words)
    # The letters are those of the standard.
    a = state[0]
    b = state[1]
    c = state[2]
    d = state[3]
    e = state[4]
    f = state[5]
    g = state[6]
    h = state[7]
    for k in range(64):
        twice = (e << 32) | e
        turned = (twice >> 6) ^ (twice >> 11) ^ (twice >> 25)
        first = h + turned + ((e & f) ^ ((WORD ^ e) & g)) + ROUNDS[k] + mixed[k]
        twice = (a << 32) | a
        turned = (twice >> 2) ^ (twice >> 13) ^ (twice >> 22)
        second = turned + ((a & b) ^ (a & c) ^ (b & c))
        h = g
        g = f
        f = e
        e = (d + first) & WORD
        d = c
        c = b
        b = a
        a = (first + second) & WORD
    return [(old + new) & WORD for old, new in zip(state, [a, b, c, d, e, f, g, h])]


def schedule(words):
    mixed = list(words)
    for k in range(16, 64):
        word = mixed[k - 15]
        twice = (word << 32) | word
        early = (twice >> 7) ^ (twice >> 18) ^ (word >> 3)
        word = mixed[k - 2]
        twice = (word << 32) | word
        late = (twice >> 17) ^ (twice >> 19) ^ (word >> 10)
        mixed.append((mixed[k - 16] + early + mixed[k - 7] + late) & WORD)
    return mixed

"""SHA-256 sums, keys, signatures and shared secrets on the curve P-256.

Each call takes whole numbers and lists of bytes and answers one list: a number, then bytes.
A refusal is its number alone.
"""

LONGEST = 16777216

TRIES = 256

MASK = 0xFFFFFFFF

FIRST_WORDS = (
    0x6A09E667, 0xBB67AE85, 0x3C6EF372, 0xA54FF53A, 0x510E527F, 0x9B05688C, 0x1F83D9AB, 0x5BE0CD19,
)

ROUND_NUMBERS = (
    0x428A2F98, 0x71374491, 0xB5C0FBCF, 0xE9B5DBA5, 0x3956C25B, 0x59F111F1, 0x923F82A4, 0xAB1C5ED5,
    0xD807AA98, 0x12835B01, 0x243185BE, 0x550C7DC3, 0x72BE5D74, 0x80DEB1FE, 0x9BDC06A7, 0xC19BF174,
    0xE49B69C1, 0xEFBE4786, 0x0FC19DC6, 0x240CA1CC, 0x2DE92C6F, 0x4A7484AA, 0x5CB0A9DC, 0x76F988DA,
    0x983E5152, 0xA831C66D, 0xB00327C8, 0xBF597FC7, 0xC6E00BF3, 0xD5A79147, 0x06CA6351, 0x14292967,
    0x27B70A85, 0x2E1B2138, 0x4D2C6DFC, 0x53380D13, 0x650A7354, 0x766A0ABB, 0x81C2C92E, 0x92722C85,
    0xA2BFE8A1, 0xA81A664B, 0xC24B8B70, 0xC76C51A3, 0xD192E819, 0xD6990624, 0xF40E3585, 0x106AA070,
    0x19A4C116, 0x1E376C08, 0x2748774C, 0x34B0BCB5, 0x391C0CB3, 0x4ED8AA4A, 0x5B9CCA4F, 0x682E6FF3,
    0x748F82EE, 0x78A5636F, 0x84C87814, 0x8CC70208, 0x90BEFFFA, 0xA4506CEB, 0xBEF9A3F7, 0xC67178F2,
)

P = 0xFFFFFFFF00000001000000000000000000000000FFFFFFFFFFFFFFFFFFFFFFFF
Q = 0xFFFFFFFF00000000FFFFFFFFFFFFFFFFBCE6FAADA7179E84F3B9CAC2FC632551
B = 0x5AC635D8AA3A93E7B3EBBD55769886BC651D06B0CC53B0F63BCE3C3E27D2604B
G = (
    0x6B17D1F2E12C4247F8BCE6E563A440F277037D812DEB33A0F4A13945D898C296,
    0x4FE342E2FE1A7F9B8EE7EB4A7C0F9E162BCE33576B315ECECBB6406837BF51F5,
)


def number_from_bytes(some_bytes):
    number = 0
    for byte in some_bytes:
        number = number * 256 + byte
    return number


def bytes_from_number(number, count):
    return [(number >> (8 * (count - 1 - place))) & 255 for place in range(count)]


def turned(x, n):
    return ((x >> n) | (x << (32 - n))) & MASK


def filled(message):
    # 55 bytes leave just enough of 64 for the byte 128 and the eight of the length.
    zeros = (55 - len(message)) % 64
    return message + [128] + [0] * zeros + bytes_from_number(8 * len(message), 8)


def words_of_block(block):
    words = [number_from_bytes(block[4 * i:4 * i + 4]) for i in range(16)]
    for i in range(16, 64):
        u = words[i - 15]
        v = words[i - 2]
        from_u = turned(u, 7) ^ turned(u, 18) ^ (u >> 3)
        from_v = turned(v, 17) ^ turned(v, 19) ^ (v >> 10)
        words.append((words[i - 16] + from_u + words[i - 7] + from_v) & MASK)
    return words


def state_after_block(state, block):
    words = words_of_block(block)
    a = state[0]
    b = state[1]
    c = state[2]
    d = state[3]
    e = state[4]
    f = state[5]
    g = state[6]
    h = state[7]
    for i in range(64):
        from_e = turned(e, 6) ^ turned(e, 11) ^ turned(e, 25)
        t = h + from_e + ((e & f) ^ ((e ^ MASK) & g)) + ROUND_NUMBERS[i] + words[i]
        from_a = turned(a, 2) ^ turned(a, 13) ^ turned(a, 22)
        u = from_a + ((a & b) ^ (a & c) ^ (b & c))
        h = g
        g = f
        f = e
        e = (d + t) & MASK
        d = c
        c = b
        b = a
        a = (t + u) & MASK
    mixed = [a, b, c, d, e, f, g, h]
    return [(state[i] + mixed[i]) & MASK for i in range(8)]


def sha256(message):
    whole = filled(message)
    state = list(FIRST_WORDS)
    for start in range(0, len(whole), 64):
        state = state_after_block(state, whole[start:start + 64])
    answer = []
    for word in state:
        answer.extend(bytes_from_number(word, 4))
    return answer


def hmac(key, message):
    widened = key + [0] * 32
    inner = sha256([byte ^ 54 for byte in widened] + message)
    return sha256([byte ^ 92 for byte in widened] + inner)


# By Euclid's steps, each of which keeps factor * number equal to rest modulo the prime.
def inverse(number, prime):
    rest = number % prime
    factor = 1
    rest_before = prime
    factor_before = 0
    while rest != 0:
        quotient = rest_before // rest
        rest_after = rest_before - quotient * rest
        factor_after = factor_before - quotient * factor
        rest_before = rest
        factor_before = factor
        rest = rest_after
        factor = factor_after
    return factor_before % prime


# A square root modulo p if there is one, else some number. It's this power as p + 1 is a multiple of 4.
def root(number):
    power = 1
    square = number % P
    left = (P + 1) // 4
    while left > 0:
        if left % 2 == 1:
            power = power * square % P
        square = square * square % P
        left = left // 2
    return power


# None stands for the point far away, which has no x and y.
def points_added(one, other):
    if one is None:
        return other
    if other is None:
        return one
    x = one[0]
    y = one[1]
    u = other[0]
    v = other[1]
    if x == u and (y + v) % P == 0:
        return None
    if x == u:
        slope = (3 * x * x - 3) * inverse(2 * y, P) % P
    else:
        slope = (v - y) * inverse(u - x, P) % P
    r = (slope * slope - x - u) % P
    return (r, (slope * (x - r) - y) % P)


# Doubling for each binary digit, as the count is far too large for adding one by one.
def point_times(count, point):
    total = None
    doubled = point
    left = count
    while left > 0:
        if left % 2 == 1:
            total = points_added(total, doubled)
        doubled = points_added(doubled, doubled)
        left = left // 2
    return total


def is_length(n):
    return 0 <= n and n <= LONGEST


# From 1 to q - 1, as a secret has to be, and r, s and c of a signature.
def is_scalar(number):
    return 1 <= number and number < Q


def is_on_curve(x, y):
    return x < P and y < P and (y * y - x * x * x + 3 * x - B) % P == 0


def public_bytes(point):
    return [4] + bytes_from_number(point[0], 32) + bytes_from_number(point[1], 32)


def short_bytes(point):
    return [2 + point[1] % 2] + bytes_from_number(point[0], 32)


# None here is no public key: the point far away has no such bytes.
def point_of_public(public):
    x = number_from_bytes(public[1:33])
    y = number_from_bytes(public[33:])
    if public[0] != 4 or not is_on_curve(x, y):
        return None
    return (x, y)


# None if it's no point's short form. No point of this curve has a y of 0, so p - y is below p.
def point_of_short(in_short):
    x = number_from_bytes(in_short[1:])
    y = root(x * x * x - 3 * x + B)
    if in_short[0] not in (2, 3) or not is_on_curve(x, y):
        return None
    if y % 2 == in_short[0] % 2:
        return (x, y)
    return (x, P - y)


# The document's K and V, as they stand ahead of the first try.
def first_key_and_value(d, e):
    z = bytes_from_number(d, 32) + bytes_from_number(e % Q, 32)
    value = [1] * 32
    key = hmac([0] * 32, value + [0] + z)
    value = hmac(key, value)
    key = hmac(key, value + [1] + z)
    return (key, hmac(key, value))


# None if c makes no signature, so that another has to be tried.
def signature_by(c, d, e):
    if not is_scalar(c):
        return None
    r = point_times(c, G)[0] % Q
    s = (e + r * d) * inverse(c, Q) % Q
    if r == 0 or s == 0:
        return None
    return bytes_from_number(r, 32) + bytes_from_number(s, 32)


# None if it's given up.
def signature_of(d, e):
    first = first_key_and_value(d, e)
    key = first[0]
    value = first[1]
    for attempt in range(TRIES):
        value = hmac(key, value)
        signature = signature_by(number_from_bytes(value), d, e)
        if signature is not None:
            return signature
        key = hmac(key, value + [0])
        value = hmac(key, value)
    return None


def is_right(point, e, r, s):
    if not is_scalar(r) or not is_scalar(s):
        return False
    by_s = inverse(s, Q)
    total = points_added(point_times(e * by_s % Q, G), point_times(r * by_s % Q, point))
    return total is not None and total[0] % Q == r


def p2_sum(n, m):
    if not is_length(n):
        return [-1]
    return [0] + sha256(m)


def p2_public(secret):
    d = number_from_bytes(secret)
    if not is_scalar(d):
        return [-2]
    return [0] + public_bytes(point_times(d, G))


def p2_sign(n, secret, m):
    if not is_length(n):
        return [-1]
    d = number_from_bytes(secret)
    if not is_scalar(d):
        return [-2]
    signature = signature_of(d, number_from_bytes(sha256(m)))
    if signature is None:
        return [-4]
    return [0] + signature


def p2_check(n, public, m, signature):
    if not is_length(n):
        return [-1]
    point = point_of_public(public)
    if point is None:
        return [-3]
    e = number_from_bytes(sha256(m))
    r = number_from_bytes(signature[:32])
    s = number_from_bytes(signature[32:])
    if is_right(point, e, r, s):
        return [1]
    return [0]


def p2_shared(secret, public):
    d = number_from_bytes(secret)
    if not is_scalar(d):
        return [-2]
    point = point_of_public(public)
    if point is None:
        return [-3]
    # Never far away: only a multiple of q brings a point of this curve there.
    shared = point_times(d, point)
    return [0] + bytes_from_number(shared[0], 32)


def p2_short(public):
    point = point_of_public(public)
    if point is None:
        return [-3]
    return [0] + short_bytes(point)


def p2_long(in_short):
    point = point_of_short(in_short)
    if point is None:
        return [-3]
    return [0] + public_bytes(point)

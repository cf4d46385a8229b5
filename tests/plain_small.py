"""The small suite, written down plainly, for comparison."""

L = 2 ** 127 - 1
M = 2 ** 61 - 1


def little(data):
    return int.from_bytes(bytes(data), "little")


def big(number, size):
    return list(number.to_bytes(size, "big"))


def exponent(secret):
    return 2 * (little(secret) % 2 ** 124) + 3


def public_of(secret):
    return list(pow(43, exponent(secret), L).to_bytes(16, "little"))


def shared_of(secret, public):
    return list(pow(little(public), exponent(secret), L).to_bytes(16, "little"))


def mixed(x, y, n):
    x = ((x + n) * (x + 1000000007) + y) % M
    y = ((y + n) * (y + 998244353) + x) % M
    return x, y


def digest_of(data):
    x, y = 11, 17
    for start in range(0, len(data), 7):
        x, y = mixed(x, y, little(list(data[start:start + 7]) + [1]))
    for _ in "123":
        x, y = mixed(x, y, len(data))
    return list(x.to_bytes(8, "little") + y.to_bytes(8, "little"))


def keyed_of(key, data):
    return digest_of([1] + big(len(key), 4) + key + data)


def stream_of(key, number, size):
    start = digest_of([2] + key + big(number, 8))
    x, y = little(start[:8]), little(start[8:])
    data = []
    while len(data) < size:
        x = (x * 1442695040888963407 + y + 1) % M
        y = (y * 1181783497276652981 + x + 1) % M
        data += list((x % 2 ** 56).to_bytes(7, "little"))
    return data[:size]


def sealed_of(key, number, data, text):
    combined = [one ^ other for one, other in zip(text, stream_of(key, number, len(text)))]
    head = [3] + key + big(number, 8) + big(len(data), 4)
    return combined + digest_of(head + data + combined)[:8]

"""The stream cipher, written down plainly, for comparison."""


def turned(word, count):
    return (word * 2 ** count + word // 2 ** (32 - count)) % 2 ** 32


def plain_quarter(words, i, j, k, m):
    for one, other, third, count in ((i, j, m, 16), (k, m, j, 12), (i, j, m, 8), (k, m, j, 7)):
        words[one] = (words[one] + words[other]) % 2 ** 32
        words[third] = turned(words[third] ^ words[one], count)


def plain_double(words):
    for k in range(4):
        plain_quarter(words, k, 4 + k, 8 + k, 12 + k)
    for k in range(4):
        plain_quarter(words, k, 4 + (k + 1) % 4, 8 + (k + 2) % 4, 12 + (k + 3) % 4)


def plain_start(key, counter, nonce):
    data = (list(b"expand 32-byte k") + key + list(counter.to_bytes(4, "little")) + nonce)
    return [int.from_bytes(bytes(data[k:k + 4]), "little") for k in range(0, 64, 4)]


def plain_block(key, counter, nonce):
    start = plain_start(key, counter, nonce)
    words = list(start)
    for _ in range(10):
        plain_double(words)
    sums = [(one + other) % 2 ** 32 for one, other in zip(start, words)]
    return [byte for word in sums for byte in word.to_bytes(4, "little")]


def plain_stream(key, nonce, size, counter=0):
    data = []
    while len(data) < size:
        data += plain_block(key, counter, nonce)
        counter += 1
    return data[:size]

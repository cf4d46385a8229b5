"""The names, parameters and places of the document's interface."""

import importlib
import inspect
import unittest

FUNCTIONS = {
    "octets": ["to_little(number, size)", "to_big(number, size)", "from_little(data)",
               "from_big(data)", "pack(parts)", "unpack(data)", "to_digits(data)",
               "from_digits(text)", "cut(data, size)", "combine(first, second)",
               "equal(first, second)", "zeros(count)", "is_bytes(value)"],
    "words": ["add_words(first, second)", "rotate_left(word, count)",
              "rotate_right(word, count)", "words_little(data)", "words_big(data)",
              "bytes_little(words)", "bytes_big(words)"],
    "field": ["add(a, b)", "subtract(a, b)", "multiply(a, b)", "power(a, n)", "invert(a)",
              "square_class(a)", "square_root(a)", "field_from_bytes(data)", "field_to_bytes(a)"],
    "limbs": ["is_tight(limbs)", "is_loose(limbs)", "to_limbs(a)", "from_limbs(limbs)",
              "carry(limbs)", "add_limbs(a, b)", "subtract_limbs(a, b)", "multiply_limbs(a, b)",
              "scale_limbs(a, k)", "swap_limbs(bit, a, b)", "invert_limbs(a)"],
    "exchange": ["exchange(secret, public)", "public_key(secret)", "is_weak(public)",
                 "agree(secret, public)", "exchange_limbs(secret, public)"],
    "rounds": ["choose(x, y, z)", "majority(x, y, z)", "sum_zero(x)", "sum_one(x)",
               "turn_zero(x)", "turn_one(x)", "round_constants()", "start_words()",
               "schedule(block)", "schedule_start(last)", "round_step(words, added)",
               "round_back(words, added)", "compress(words, block)"],
    "digest": ["padding(length)", "digest(data)", "digest_parts(parts)"],
    "keyed": ["key_block(key)", "keyed(key, data)", "keyed_parts(key, parts)",
              "is_keyed(key, data, tag)"],
    "derive": ["extract(salt, secret)", "expand(key, information, size)",
               "derive(salt, secret, information, size)"],
    "stream": ["quarter_round(a, b, c, d)", "quarter_round_back(a, b, c, d)",
               "start_state(key, counter, nonce)", "double_round(state)",
               "double_round_back(state)", "block(key, counter, nonce)",
               "key_stream(key, nonce, size, *, counter=0)",
               "apply_stream(key, nonce, text, *, counter=0)"],
    "ladder": ["clamp(secret)", "scalar(secret)", "double(point)", "add_points(low, high, u)",
               "ladder(n, u)", "affine(point)", "curve_side(u)"],
    "tag": ["clamp(data)", "tag(key, text)", "plain_tag(key, text)", "to_limbs(number)",
            "from_limbs(limbs)", "carry_limbs(limbs)", "multiply_limbs(first, second)"],
    "sealing": ["one_time_key(key, nonce)", "tagged_text(data, ciphertext)",
                "seal(key, nonce, data, text)", "open_sealed(key, nonce, data, sealed)",
                "nonce_of(number)"],
    "pattern": ["parse_pattern(text)", "write_pattern(pattern)"],
    "rules": ["broken_rule(pattern)", "needs_secret(pattern, *, opener)",
              "needs_peer(pattern, *, opener)", "sends_secret(pattern, *, opener)",
              "uses_psk(pattern)"],
    "catalog": ["pattern_named(name)", "add_psk(pattern, place)", "fall_back(pattern)"],
    "grades": ["can_compute(token, keys)", "is_open(pattern, index, keys)",
               "can_forge(pattern, index, keys)", "grades(pattern)"],
    "small": ["small_power(base, exponent)", "small_exponent(secret)", "small_mix(pair, number)",
              "small_digest(data)", "small_stream(key, number, size)"],
    "numbered": ["two_values(suite, chain, data)", "three_values(suite, chain, data)"],
    "sending": ["next_key(suite, key)", "frame_size(suite, size, *, padding=1)"],
    "entries": ["byte_sum(data)", "write_record(kind, body)", "read_records(data)",
                "is_name(value)", "name_bytes(name)", "bytes_name(data)"],
    "store": ["prepare(suite, disk, seed, secret)"],
    "accepting": ["accepts(rule, store, name, key)", "check_rule(rule, key_size)"],
    "watch": ["forgeries(entries)", "coincidences(entries)", "crossings(entries)",
              "clashes(entries)"],
    "judge": ["posted(trace, wire, side)", "taken(trace, wire, side)", "came(trace, wire, side)",
              "ready(trace, wire, side)", "partners(trace, wire, side)", "broken(net)",
              "excused(net, wire, side)"],
    "scenario": ["read_scenario(text)", "write_scenario(deeds)", "play(net, text)",
                 "report(entries)"],
}

SUITE_METHODS = [
    "public(self, secret)", "is_weak(self, public)", "exchange(self, secret, public)",
    "digest(self, data)", "keyed(self, key, data)", "seal(self, key, number, data, text)",
    "open_sealed(self, key, number, data, sealed)"]

CLASSES = {
    ("digest", "Digester()"): ["add(self, data)", "told(self)", "length(self)", "twin(self)",
                               "state(self)"],
    ("keyed", "Keyer(key)"): ["add(self, data)", "told(self)", "twin(self)"],
    ("stream", "StreamReader(key, nonce, *, counter=0)"): [
        "take(self, size)", "apply(self, text)", "position(self)", "twin(self)"],
    ("tag", "Tagger(key)"): ["add(self, text)", "told(self)", "twin(self)"],
    ("pattern", "Pattern(name, before, messages)"): [],
    ("suites", "StandardSuite()"): SUITE_METHODS,
    ("suites", "SmallSuite()"): SUITE_METHODS,
    ("numbered", "NumberedKey(suite, key)"): [
        "seal(self, data, text)", "open_sealed(self, data, sealed)", "has_key(self)",
        "number(self)", "twin(self)", "state(self)"],
    ("transcript", "Transcript(suite, label)"): [
        "mix_data(self, data)", "mix_key(self, data)", "mix_both(self, data)", "seal(self, text)",
        "open_sealed(self, sealed)", "hash(self)", "has_key(self)", "split(self)", "twin(self)",
        "state(self)"],
    ("handshake", "Handshake(suite, pattern, *, opener, prologue=(), secret=None, ephemeral=None, "
                  "peer=None, peer_ephemeral=None, psk=None)"): [
        "write(self, payload)", "read(self, message)", "overhead(self)", "is_done(self)",
        "writes_next(self)", "hash(self)", "peer(self)", "split(self)", "state(self)"],
    ("sending", "Sender(suite, key, *, padding=1, limit=1048576, piece=16384)"): [
        "message(self, data)", "change_key(self)", "close(self)", "alarm(self, code=0)",
        "sent(self)", "state(self)"],
    ("receiving", "Receiver(suite, key, *, limit=1048576)"): [
        "receive(self, data)", "over(self)", "state(self)"],
    ("letters", "Window(size)"): ["fresh(self, number)", "take(self, number)", "state(self)"],
    ("letters", "LetterSender(suite, key, *, padding=1)"): [
        "letter(self, data)", "skip(self, count)", "number(self)"],
    ("letters", "LetterReceiver(suite, key, *, size=64)"): ["receive(self, letter)",
                                                           "state(self)"],
    ("disk", "Disk()"): [
        "write(self, bank, data)", "settle(self, bank)", "cut(self, bank, length)",
        "read(self, bank)", "pending(self)", "arm(self, deeds)", "has_power(self)",
        "crash(self, kept, torn)", "crashes(self)"],
    ("store", "Store(suite, disk)"): [
        "seed(self)", "secret(self)", "next_number(self)", "ephemeral(self, number)",
        "fresh(self)", "keep_name(self, name, key)", "release(self, name, key)",
        "name_key(self, name)", "key_names(self, key)", "names(self)", "pack(self)",
        "state(self)"],
    ("options", "Options(suite, store, patterns, prologue, psk, rule, limits)"): [
        "pattern(self, name)"],
    ("connection", "Connection(options, link, name, opener)"): [
        "begin(self)", "receive(self, data)", "post(self, message)", "fetch(self)",
        "finish(self)", "cut_link(self)", "tick(self, count)", "stage(self)"],
    ("ends", "End(suite, store, *, patterns=('XX',), prologue=(), psk=None, rule=('any',), "
             "limits=(100, 0, 1000, 65536, 4))"): [
        "start(self, link, name=None)", "answer(self, link, name=None)",
        "receive(self, link, data)", "post(self, link, message)", "fetch(self, link)",
        "finish(self, link)", "cut_link(self, link)", "tick(self, count=1)", "links(self)",
        "stage(self, link)", "public_key(self)"],
    ("watch", "Log()"): ["entries(self)", "add(self, entry)", "go_to(self, wire, side)"],
    ("watch", "WatchedSuite(suite, log, home)"): SUITE_METHODS,
    ("net", "Net(suite, homes, *, prologue=())"): [
        "do(self, deed)", "trace(self)", "entries(self)", "pieces(self, wire, way)",
        "wires(self)", "public_key(self, home)", "is_down(self, home)", "end(self, home)"],
}

ERRORS = ["HushError", "OutOfRange", "Malformed", "NotAuthentic", "Exhausted", "OutOfOrder",
          "Refused", "PowerLost", "BadLine"]


def module(name):
    return importlib.import_module("hushlink." + name)


class Interface(unittest.TestCase):
    def test_functions(self):
        for name, lines in FUNCTIONS.items():
            for line in lines:
                with self.subTest(module=name, function=line):
                    found = getattr(module(name), line.partition("(")[0])
                    self.assertTrue(inspect.isfunction(found))
                    self.assertEqual(found.__name__ + str(inspect.signature(found)), line)
                    self.assertEqual(found.__module__, "hushlink." + name)

    def test_classes(self):
        for (name, line), methods in CLASSES.items():
            with self.subTest(module=name, line=line):
                found = getattr(module(name), line.partition("(")[0])
                self.assertEqual(found.__name__ + str(inspect.signature(found)), line)
                self.assertEqual(found.__module__, "hushlink." + name)
                for method in methods:
                    self.assertIn(method.partition("(")[0], vars(found))
                    own = vars(found)[method.partition("(")[0]]
                    self.assertEqual(own.__name__ + str(inspect.signature(own)), method)

    def test_errors(self):
        for name in ERRORS:
            with self.subTest(name):
                found = getattr(module("errors"), name)
                self.assertTrue(inspect.isclass(found))
                self.assertEqual(found.__module__, "hushlink.errors")

    def test_prime(self):
        self.assertEqual(vars(module("field"))["PRIME"], 2 ** 255 - 19)

    def test_pattern_names(self):
        self.assertIsInstance(vars(module("catalog"))["PATTERN_NAMES"], tuple)


if __name__ == "__main__":
    unittest.main()

"""SHA-256, against known values and against Python's own."""

import hashlib
import unittest

from leavegiven.sha256 import digest

# The messages of FIPS 180's examples, then so many letters a.
KNOWN = (
    (b"", "e3b0c44298fc1c149afbf4c8996fb92427ae41e4649b934ca495991b7852b855"),
    (b"abc", "ba7816bf8f01cfea414140de5dae2223b00361a396177a9cb410ff61f20015ad"),
    (b"abcdbcdecdefdefgefghfghighijhijkijkljklmklmnlmnomnopnopq",
     "248d6a61d20638b8e5c026930c3e6039a33ce45964ff2167f6ecedd419db06c1"),
    (b"abcdefghbcdefghicdefghijdefghijkefghijklfghijklmghijklmnhijklmnoijklmnopjklmnopqklmnopqrlmnopqrsmnopqrst"
     b"nopqrstu", "cf5b16a778af8380036ce59e7b0492370b249b11e8f07a51afac45037afee9d1"),
    (b"a" * 55, "9f4390f8d30c2dd92ec9f095b65e2b9ae9b0a925a5258e241c9f1e910f734318"),
    (b"a" * 56, "b35439a4ac6f0948b6d6f9e3c6af0f5f590ce20f1bde7090ef7970686ec6738a"),
    (b"a" * 63, "7d3e74a05d7db15bce4ad9ec0658ea98e3f06eeecf16b4c6fff2da457ddc2f34"),
    (b"a" * 64, "ffe054fe7ae0cb6dc65c3af9b61d5209f439851db43d0ba5997337df154668eb"),
    (b"a" * 119, "31eba51c313a5c08226adf18d4a359cfdfd8d2e816b13f4af952f7ea6584dcfb"),
    (b"a" * 120, "2f3d335432c70b580af0e8e1b3674a7c020d683aa5f73aaaedfdc55af904c21c"),
)


class Sha256(unittest.TestCase):
    def test_known_values(self):
        for message, told in KNOWN:
            with self.subTest(message=message):
                self.assertEqual(bytes(digest(list(message))).hex(), told)

    def test_every_length(self):
        for length in range(201):
            message = bytes((length + 37 * k) % 256 for k in range(length))
            self.assertEqual(bytes(digest(tuple(message))), hashlib.sha256(message).digest())

    def test_lowest_and_highest_bytes(self):
        for byte in (0, 127, 128, 255):
            for length in (1, 64, 128):
                message = bytes([byte]) * length
                self.assertEqual(bytes(digest(tuple(message))), hashlib.sha256(message).digest())

    def test_the_message_is_not_changed(self):
        message = [1, 2, 3]
        digest(message)
        self.assertEqual(message, [1, 2, 3])


if __name__ == "__main__":
    unittest.main()

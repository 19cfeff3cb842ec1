"""Texts read from UTF-8 and written in it, byte by byte."""

from plainlayout.characters import is_character
from plainlayout.refusals import NotUtf8

# For each length of a sequence: its first code point; a smaller one is overlong.
SMALLEST = (0, 0, 0x80, 0x800, 0x10000)
# For each length of a sequence: what its first byte has above the bits of the code point.
LEADS = (0, 0, 0xC0, 0xE0, 0xF0)


def read_utf8(octets):
    text = []
    at = 0
    while at < len(octets):
        size = sequence_size(octets[at])
        text.append(read_sequence(octets[at:at + size], size))
        at += size
    return text


def sequence_size(lead):
    if lead < 0x80:
        return 1
    if 0xC0 <= lead < 0xE0:
        return 2
    if 0xE0 <= lead < 0xF0:
        return 3
    if 0xF0 <= lead < 0xF8:
        return 4
    raise NotUtf8()


def read_sequence(octets, size):
    if len(octets) < size:
        raise NotUtf8()
    code = octets[0] - LEADS[size]
    for octet in octets[1:]:
        if not 0x80 <= octet < 0xC0:
            raise NotUtf8()
        code = code * 64 + octet - 0x80
    if code < SMALLEST[size] or not is_character(code):
        raise NotUtf8()
    return code


def write_utf8(text):
    octets = []
    for code in text:
        octets.extend(write_sequence(code))
    return octets


def write_sequence(code):
    if code < 0x80:
        return [code]
    size = 2
    while size < 4 and code >= SMALLEST[size + 1]:
        size += 1
    octets = []
    rest = code
    while len(octets) < size - 1:
        octets.insert(0, 0x80 + rest % 64)
        rest = rest // 64
    return [LEADS[size] + rest] + octets

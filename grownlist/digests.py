"""SHA-1 and SHA-256 (FIPS 180-4). Bytes are lists of whole numbers from 0 to 255."""

WORD = 0xFFFFFFFF
FIRST_STATE = (
    0x6A09E667, 0xBB67AE85, 0x3C6EF372, 0xA54FF53A, 0x510E527F, 0x9B05688C, 0x1F83D9AB, 0x5BE0CD19,
)
ROUND_NUMBERS = (
    0x428A2F98, 0x71374491, 0xB5C0FBCF, 0xE9B5DBA5, 0x3956C25B, 0x59F111F1, 0x923F82A4, 0xAB1C5ED5,
    0xD807AA98, 0x12835B01, 0x243185BE, 0x550C7DC3, 0x72BE5D74, 0x80DEB1FE, 0x9BDC06A7, 0xC19BF174,
    0xE49B69C1, 0xEFBE4786, 0x0FC19DC6, 0x240CA1CC, 0x2DE92C6F, 0x4A7484AA, 0x5CB0A9DC, 0x76F988DA,
    0x983E5152, 0xA831C66D, 0xB00327C8, 0xBF597FC7, 0xC6E00BF3, 0xD5A79147, 0x06CA6351, 0x14292967,
    0x27B70A85, 0x2E1B2138, 0x4D2C6DFC, 0x53380D13, 0x650A7354, 0x766A0ABB, 0x81C2C92E, 0x92722C85,
    0xA2BFE8A1, 0xA81A664B, 0xC24B8B70, 0xC76C51A3, 0xD192E819, 0xD6990624, 0xF40E3585, 0x106AA070,
    0x19A4C116, 0x1E376C08, 0x2748774C, 0x34B0BCB5, 0x391C0CB3, 0x4ED8AA4A, 0x5B9CCA4F, 0x682E6FF3,
    0x748F82EE, 0x78A5636F, 0x84C87814, 0x8CC70208, 0x90BEFFFA, 0xA4506CEB, 0xBEF9A3F7, 0xC67178F2,
)
SHORT_FIRST_STATE = (0x67452301, 0xEFCDAB89, 0x98BADCFE, 0x10325476, 0xC3D2E1F0)
SHORT_ROUND_NUMBERS = (0x5A827999, 0x6ED9EBA1, 0x8F1BBCDC, 0xCA62C1D6)


def bytes_of(number, count):
    """A number as so many bytes, the highest first."""
    return [number >> 8 * place & 255 for place in range(count - 1, -1, -1)]


def word_at(message, at):
    """The four bytes from a place on as one number, the highest first."""
    return message[at] << 24 | message[at + 1] << 16 | message[at + 2] << 8 | message[at + 3]


def padded(message):
    """The message with what makes whole blocks of 64 bytes of it, its length in bits last."""
    zeros = (55 - len(message)) % 64
    return message + [128] + [0] * zeros + bytes_of(8 * len(message), 8)


def chosen(which, first, second):
    """Bit by bit the first's where which has a 1, else the second's."""
    return which & first ^ (which ^ WORD) & second


def most_of(first, second, third):
    """Bit by bit what at least two of three words have."""
    return first & second ^ first & third ^ second & third


def made_by(after, first_state, message):
    """The bytes of the state that is left when each block has been taken in, where after tells the state behind one."""
    whole = padded(message)
    state = list(first_state)
    for at in range(0, len(whole), 64):
        state = after(state, whole[at:at + 64])
    made = []
    for word in state:
        made.extend(bytes_of(word, 4))
    return made


def mixed(word, first, second, third):
    """The word turned right by each of three counts, added bit by bit without carry."""
    # Two copies side by side: what a turn brings round from the right end stands there already.
    twice = word << 32 | word
    return (twice >> first ^ twice >> second ^ twice >> third) & WORD


def drawn(word, first, second, shift):
    """The word turned right by two counts and moved right by the last, added likewise."""
    twice = word << 32 | word
    return (twice >> first ^ twice >> second ^ word >> shift) & WORD


def spread(block):
    """The 64 words that a block of 64 bytes gives to the rounds."""
    words = [word_at(block, at) for at in range(0, 64, 4)]
    for i in range(16, 64):
        early = words[i - 16] + drawn(words[i - 15], 7, 18, 3)
        late = words[i - 7] + drawn(words[i - 2], 17, 19, 10)
        words.append((early + late) & WORD)
    return words


def after_round(state, added):
    """The eight words of the state after one round."""
    low = state[7] + mixed(state[4], 6, 11, 25) + chosen(state[4], state[5], state[6]) + added
    high = low + mixed(state[0], 2, 13, 22) + most_of(state[0], state[1], state[2])
    return [high & WORD] + state[0:3] + [(state[3] + low) & WORD] + state[4:7]


def after_block(state, block):
    """The eight words of the state after a block of 64 bytes."""
    worked = state
    for number, word in zip(ROUND_NUMBERS, spread(block)):
        worked = after_round(worked, number + word)
    return [(old + new) & WORD for old, new in zip(state, worked)]


def digest_of(message):
    """The 32 bytes that SHA-256 makes of a list of bytes."""
    return made_by(after_block, FIRST_STATE, message)


def turned_left(word, count):
    """The word turned left by so many bits."""
    return (word << count | word >> 32 - count) & WORD


def short_spread(block):
    """The 80 words that a block of 64 bytes gives to SHA-1's rounds."""
    words = [word_at(block, at) for at in range(0, 64, 4)]
    for i in range(16, 80):
        words.append(turned_left(words[i - 3] ^ words[i - 8] ^ words[i - 14] ^ words[i - 16], 1))
    return words


def short_mixed(stage, state):
    """What SHA-1's rounds of a stage, each of 20 rounds, make of the middle three words of the state."""
    if stage == 0:
        return chosen(state[1], state[2], state[3])
    if stage == 2:
        return most_of(state[1], state[2], state[3])
    return state[1] ^ state[2] ^ state[3]


def after_short_round(state, stage, word):
    """The five words of SHA-1's state after one round."""
    added = short_mixed(stage, state) + state[4] + SHORT_ROUND_NUMBERS[stage] + word
    first = (turned_left(state[0], 5) + added) & WORD
    return [first, state[0], turned_left(state[1], 30)] + state[2:4]


def after_short_block(state, block):
    """The five words of SHA-1's state after a block of 64 bytes."""
    worked = state
    for i, word in enumerate(short_spread(block)):
        worked = after_short_round(worked, i // 20, word)
    return [(old + new) & WORD for old, new in zip(state, worked)]


def short_digest_of(message):
    """The 20 bytes that SHA-1 makes of a list of bytes."""
    return made_by(after_short_block, SHORT_FIRST_STATE, message)

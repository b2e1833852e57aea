"""One block of 128 bytes stirred into the eight words of a sum (FIPS 180-4, 6.4.2)."""

from longsums.tables import BLOCK, ROUND_WORDS

WORD_MASK = 0xFFFFFFFFFFFFFFFF


def doubled(word):
    # Behind its own copy a word is turned to the right by a mere shift; what lies above 64 bits is cut off later.
    return (word << 64) | word


def first_words(block):
    words = []
    for at in range(0, BLOCK, 8):
        word = 0
        for byte in block[at:at + 8]:
            word = (word << 8) | byte
        words.append(word)
    return words


def spread_words(block):
    words = first_words(block)
    for at in range(16, 80):
        early = words[at - 15]
        late = words[at - 2]
        two_early = doubled(early)
        two_late = doubled(late)
        early_mix = (two_early >> 1) ^ (two_early >> 8) ^ (early >> 7)
        late_mix = (two_late >> 19) ^ (two_late >> 61) ^ (late >> 6)
        words.append((words[at - 16] + early_mix + words[at - 7] + late_mix) & WORD_MASK)
    return words


def rounds_done(words, spread):
    # The letters are those of FIPS 180-4, so that the rounds can be held against it line by line.
    a = words[0]
    b = words[1]
    c = words[2]
    d = words[3]
    e = words[4]
    f = words[5]
    g = words[6]
    h = words[7]
    for fixed, word in zip(ROUND_WORDS, spread):
        two_e = doubled(e)
        two_a = doubled(a)
        e_mix = (two_e >> 14) ^ (two_e >> 18) ^ (two_e >> 41)
        a_mix = (two_a >> 28) ^ (two_a >> 34) ^ (two_a >> 39)
        chosen = (e & f) ^ (g & (e ^ WORD_MASK))
        most = (a & b) ^ (a & c) ^ (b & c)
        first = h + e_mix + chosen + fixed + word
        h = g
        g = f
        f = e
        e = (d + first) & WORD_MASK
        d = c
        c = b
        b = a
        a = (first + a_mix + most) & WORD_MASK
    return [a, b, c, d, e, f, g, h]


def stirred(words, block):
    turned = rounds_done(words, spread_words(block))
    return [(old + new) & WORD_MASK for old, new in zip(words, turned)]


def all_stirred(words, data):
    # Whoever asks hands in whole blocks alone: a row keeps its rest back, and its padding fills the last block.
    stirred_so_far = words
    for at in range(0, len(data), BLOCK):
        stirred_so_far = stirred(stirred_so_far, data[at:at + BLOCK])
    return stirred_so_far

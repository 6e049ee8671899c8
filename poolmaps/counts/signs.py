"""Signs of the words of snap pools, and words that all threads but one cannot tell apart."""

from poolmaps.base.pools import check_thread, snap_pool
from poolmaps.base.webs import Web, parting_web
from poolmaps.errors import InvalidOperation, InvalidWeb
from poolmaps.known.chains import shortest_chain
from poolmaps.known.sights import check_few_words, sight_table
from poolmaps.known.words import check_word, is_word


def hearing_classes(web):
    """The tuple of the ascending blocks of threads that hear equally many threads, those that hear fewest first."""
    classes = {}
    for thread, others in enumerate(web.heard):
        classes.setdefault(len(others), []).append(thread)
    return tuple([tuple(classes[many]) for many in sorted(classes)])


def blocks_of(web):
    """The tuple of the blocks whose parting web it is."""
    if not isinstance(web, Web):
        raise InvalidWeb("this is no web")
    blocks = hearing_classes(web)
    if parting_web(blocks) != web:
        raise InvalidOperation("this is the web of no ordered parting")
    return blocks


def web_sign(web):
    """1 if the size less the number of blocks is even, and -1 otherwise."""
    blocks = blocks_of(web)
    return 1 if (web.size - len(blocks)) % 2 == 0 else -1


def signs_of(pool):
    """The list of the signs of the webs of a snap pool."""
    return [web_sign(web) for web in pool.webs]


def product_of_signs(signs, word):
    """The sign of a word, by the signs of all webs."""
    sign = 1
    for index in word:
        sign = sign * signs[index]
    return sign


def word_sign(size, word):
    """The product of the signs of the webs of a word."""
    pool = snap_pool(size)
    check_word(pool, word)
    return product_of_signs(signs_of(pool), word)


def is_heard(web, thread):
    """Whether another thread hears this one."""
    return any([thread in others for others in web.heard])


def check_word_and_thread(size, word, thread):
    """The errors of what asks for a thread behind a word; tells the pool."""
    pool = snap_pool(size)
    check_word(pool, word)
    check_thread(pool, thread)
    return pool


def is_hidden(size, word, thread):
    """Whether no other thread hears this one in any round of the word."""
    pool = check_word_and_thread(size, word, thread)
    return not any([is_heard(pool.webs[index], thread) for index in word])


def turned_web(web, thread):
    """The other web of a parting in which all threads but this one, which is heard, hear the same."""
    blocks = list(blocks_of(web))
    place = [at for at, block in enumerate(blocks) if thread in block][0]
    others = tuple([each for each in blocks[place] if each != thread])
    if others:
        return parting_web((*blocks[:place], (thread,), others, *blocks[place + 1:]))
    joined = tuple(sorted([thread, *blocks[place + 1]]))
    return parting_web((*blocks[:place], joined, *blocks[place + 2:]))


def partners_in(pool, words):
    """A dict from the pairs (index, thread) of a heard thread to the index of the turned web, for these words."""
    return {
        (index, thread): pool.index_of(turned_web(pool.webs[index], thread))
        for index in sorted({each for word in words for each in word})
        for thread in range(pool.size) if is_heard(pool.webs[index], thread)
    }


def partner_of(partners, word, thread):
    """The partner word by the partners of all webs, or None.

    It has another web in the last round in which the thread is heard: nobody hears afterwards what the
    thread sees then.
    """
    for place in range(len(word) - 1, -1, -1):
        key = (word[place], thread)
        if key in partners:
            return (*word[:place], partners[key], *word[place + 1:])
    return None


def partner_word(size, word, thread):
    """The only other word behind which each other thread has the same sight, or None."""
    pool = check_word_and_thread(size, word, thread)
    return partner_of(partners_in(pool, [word]), word, thread)


def without_thread(numbers, thread):
    """The numbers of the sights of all other threads."""
    return (*numbers[:thread], *numbers[thread + 1:])


def partner_way(size, one, other):
    """A tuple of words from one to the other, in which each next word is a partner of the word in front."""
    pool = snap_pool(size)
    check_word(pool, one)
    check_word(pool, other)
    if len(one) != len(other):
        raise InvalidOperation("the words have unlike lengths")
    check_few_words(pool, len(one))
    labels = {
        word: [(thread, without_thread(numbers, thread)) for thread in range(size)]
        for word, numbers in sight_table(pool, len(one)).items()
    }
    return (one, *[word for _, word in shortest_chain(labels, one, other)])


def is_partner_way(size, value):
    """Whether the value is a tuple of words in which each next word is a partner of the word in front."""
    pool = snap_pool(size)
    if not isinstance(value, tuple) or not value or not all([is_word(pool, word) for word in value]):
        return False
    partners = partners_in(pool, value)
    for at in range(1, len(value)):
        if value[at] not in [partner_of(partners, value[at - 1], thread) for thread in range(size)]:
            return False
    return True

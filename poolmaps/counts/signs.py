"""Signs of the words of snap pools, and words that all threads but one cannot tell apart."""

from poolmaps.base.pools import check_thread, snap_pool
from poolmaps.base.webs import Web, parting_web
from poolmaps.errors import InvalidOperation, InvalidWeb
from poolmaps.known.sights import check_few_words
from poolmaps.known.words import check_word, is_word


def hearing_classes(web):
    """The tuple of the ascending blocks of threads that hear equally many threads, those that hear fewest first."""
    classes = {}
    for thread, others in enumerate(web.heard):
        classes.setdefault(len(others), []).append(thread)
    return tuple([tuple(classes[many]) for many in sorted(classes)])


def blocks_of(web):
    """The tuple of the blocks whose parting web it is."""
    if not isinstance(web, Web):
        raise InvalidWeb("this is no web")
    blocks = hearing_classes(web)
    if parting_web(blocks) != web:
        raise InvalidOperation("this is the web of no ordered parting")
    return blocks


def sign_of_many(size, blocks):
    """The sign of a parting of so many threads into so many blocks."""
    return 1 if (size - blocks) % 2 == 0 else -1


def web_sign(web):
    """1 if the size less the number of blocks is even, and -1 otherwise."""
    blocks = blocks_of(web)
    return sign_of_many(web.size, len(blocks))


def sign_in_snap(web):
    """The sign of a web that is known to be that of a parting: each of its blocks hears another number of threads."""
    return sign_of_many(web.size, len({len(others) for others in web.heard}))


def signs_of(pool):
    """The list of the signs of the webs of a snap pool."""
    return [sign_in_snap(web) for web in pool.webs]


def product_of_signs(signs, word):
    """The sign of a word, by the signs of all webs."""
    sign = 1
    for index in word:
        sign = sign * signs[index]
    return sign


def word_sign(size, word):
    """The product of the signs of the webs of a word."""
    pool = snap_pool(size)
    check_word(pool, word)
    sign = 1
    for index in word:
        sign = sign * sign_in_snap(pool.webs[index])
    return sign


def is_heard(web, thread):
    """Whether another thread hears this one."""
    return any([thread in others for others in web.heard])


def check_word_and_thread(size, word, thread):
    """The errors of what asks for a thread behind a word; tells the pool."""
    pool = snap_pool(size)
    check_word(pool, word)
    check_thread(pool, thread)
    return pool


def is_hidden(size, word, thread):
    """Whether no other thread hears this one in any round of the word."""
    pool = check_word_and_thread(size, word, thread)
    return not any([is_heard(pool.webs[index], thread) for index in word])


def turned_hearing(web, thread):
    """The threads that this one hears in the other parting in which all others hear the same.

    If others are in its block, it goes ahead of them; otherwise those of the next block come to it.
    """
    behind = [other for other, others in enumerate(web.heard) if thread in others]
    beside = [other for other in behind if other in web.heard[thread]]
    if beside:
        return tuple([other for other in web.heard[thread] if other not in beside])
    least = min([len(web.heard[other]) for other in behind])
    following = [other for other in behind if len(web.heard[other]) == least]
    return tuple(sorted([*web.heard[thread], *following]))


def turned_index(pool, index, thread):
    """The index of the other web in which all threads but this one, which is heard, hear the same."""
    web = pool.webs[index]
    heard = (*web.heard[:thread], turned_hearing(web, thread), *web.heard[thread + 1:])
    return pool.place_of(heard, web.marks)


def last_heard(pool, word, thread):
    """The last round of a word in which the thread is heard, or None."""
    for place in range(len(word) - 1, -1, -1):
        if is_heard(pool.webs[word[place]], thread):
            return place
    return None


def partner_of(pool, word, thread):
    """The partner of a word for the thread, or None.

    It has another web in the last round in which the thread is heard: nobody hears afterwards what the
    thread sees then.
    """
    place = last_heard(pool, word, thread)
    if place is None:
        return None
    return (*word[:place], turned_index(pool, word[place], thread), *word[place + 1:])


def partners_of(pool, word):
    """The list of the partners of a word for all threads that are not hidden."""
    partners = [partner_of(pool, word, thread) for thread in range(pool.size)]
    return [partner for partner in partners if partner is not None]


def partner_word(size, word, thread):
    """The only other word behind which each other thread has the same sight, or None."""
    pool = check_word_and_thread(size, word, thread)
    return partner_of(pool, word, thread)


def partner_way(size, one, other):
    """A tuple of words from one to the other, in which each next word is a partner of the word in front."""
    pool = snap_pool(size)
    check_word(pool, one)
    check_word(pool, other)
    if len(one) != len(other):
        raise InvalidOperation("the words have unlike lengths")
    check_few_words(pool, len(one))
    fronts = {other: None}
    queue = [other]
    at = 0
    # From the other word back to the first one, for partners are partners of one another.
    while one not in fronts:
        word = queue[at]
        at += 1
        for partner in partners_of(pool, word):
            if partner not in fronts:
                fronts[partner] = word
                queue.append(partner)
    way = [one]
    while way[-1] != other:
        way.append(fronts[way[-1]])
    return tuple(way)


def is_partner_way(size, value):
    """Whether the value is a tuple of words in which each next word is a partner of the word in front."""
    pool = snap_pool(size)
    if not isinstance(value, tuple) or not value or not all([is_word(pool, word) for word in value]):
        return False
    return all([following in partners_of(pool, word) for word, following in zip(value, value[1:])])

"""Names of bookings, resources and persons (point 6.1)."""

SIGNS = "abcdefghijklmnopqrstuvwxyz0123456789"
LONGEST_NAME = 12
MOST_RESOURCES = 4


def is_name(word):
    """True if the string is a name."""
    return 1 <= len(word) <= LONGEST_NAME and all([sign in SIGNS for sign in word])


def are_resources(words):
    """True if the tuple of strings is a row of resources."""
    if not 1 <= len(words) <= MOST_RESOURCES or not all([is_name(word) for word in words]):
        return False
    return len(set(words)) == len(words)

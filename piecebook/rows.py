"""Rows by size and by age: the classes, and how many pieces are in each."""

SIZE_CLASSES = 124
AGE_CLASSES = 64


def size_class(size):
    """The class that a size is in."""
    if size < 8:
        return size
    power = size.bit_length() - 1
    # 2^power is just four quarters: without it 0 to 3 are left
    quarters = (size >> (power - 2)) - 4
    return 4 * power - 4 + quarters


def age_class(age):
    """The class that an age is in."""
    # of 2^e and up to the next power it is e + 1, and of 0 it is 0: just what bit_length tells
    return age.bit_length()


class Rows:
    """By size how many pieces were made and how many live; by age how many went, and their bytes."""

    def __init__(self):
        self.size_made = [0] * SIZE_CLASSES
        self.size_live = [0] * SIZE_CLASSES
        self.age_went = [0] * AGE_CLASSES
        self.age_bytes = [0] * AGE_CLASSES

    def note_made(self, size):
        """Note that a piece of this size was made."""
        self.size_made[size_class(size)] += 1
        self.size_live[size_class(size)] += 1

    def note_moved(self, old_size, new_size):
        """Note that a piece that lives has another size from now on."""
        self.size_live[size_class(old_size)] -= 1
        self.size_live[size_class(new_size)] += 1

    def note_went(self, size, age):
        """Note that a piece, of this size by now, went at this age."""
        self.size_live[size_class(size)] -= 1
        self.age_went[age_class(age)] += 1
        self.age_bytes[age_class(age)] += size

    def by_size(self):
        """For each class of sizes: pieces made, pieces that live."""
        return list(zip(self.size_made, self.size_live))

    def by_age(self):
        """For each class of ages: pieces that went, their bytes."""
        return list(zip(self.age_went, self.age_bytes))

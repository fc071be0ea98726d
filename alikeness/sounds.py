"""How a text sounds, by its letters and their classes."""

# Those of a to z that hold until others are told.
FIRST_CLASSES = (0, 1, 2, 3, 0, 1, 2, 0, 0, 2, 2, 4, 5, 5, 0, 1, 2, 6, 2, 3, 0, 1, 0, 2, 0, 2)


def small_letters(text):
    letters = []
    for byte in text:
        if 97 <= byte <= 122:
            letters.append(byte)
        elif 65 <= byte <= 90:
            letters.append(byte + 32)
    return letters


# n numbers, or none for a text that has no letter.
def sound_of(n, text, classes):
    letters = small_letters(text)
    if len(letters) == 0:
        return []
    heard = [classes[letter - 97] for letter in letters]
    sound = [letters[0]]
    for ahead, own in zip(heard, heard[1:]):
        if own != 0 and own != ahead:
            sound.append(own)
    return (sound + [0] * n)[:n]

"""Places of a sheet that are dyed one by one."""


class DyedPlaces:
    """The sounds of so many places, None where a place is not dyed; they are numbered as they come.

    `lots` has for each sound that stands the mask of its places, `left` tells how many places
    are not dyed, and `most` how many sounds may stand.
    """

    def __init__(self, many, most):
        self.most = most
        self.sounds = [None] * many
        self.lots = []
        self.left = many

    def choices(self):
        """How many sounds a place can have: all that stand, and the next new one if it may."""
        return min(len(self.lots) + 1, self.most)

    def dye(self, place, sound):
        """Gives a place that is not dyed a sound that stands, or the next new one."""
        if sound == len(self.lots):
            self.lots.append(0)
        self.lots[sound] |= 1 << place
        self.sounds[place] = sound
        self.left -= 1

    def wash(self, place):
        """Takes the sound from the place that was dyed last."""
        sound = self.sounds[place]
        self.lots[sound] -= 1 << place
        if self.lots[sound] == 0:
            self.lots.pop()
        self.sounds[place] = None
        self.left += 1


def dyed_whole(dyeing):
    """The places of a dyeing, all dyed as it tells."""
    dyed = DyedPlaces(len(dyeing), len(dyeing))
    for place, sound in enumerate(dyeing):
        dyed.dye(place, sound)
    return dyed

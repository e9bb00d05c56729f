"""Reading what is told with a call, number by number."""


class Reader:
    def __init__(self, numbers):
        self.numbers = numbers
        self.place = 0

    def more_is_there(self):
        return self.place < len(self.numbers)

    def take(self):
        number = self.numbers[self.place]
        self.place += 1
        return number

    def take_list(self):
        length = self.take()
        start = self.place
        self.place = start + length
        return self.numbers[start:start + length]

    def take_word(self):
        sounds = []
        length = self.take()
        for sound in range(length):
            kind = self.take()
            loudness = self.take()
            sounds.append((kind, loudness))
        return sounds

    # A told word: its sounds, then its way's row.
    def take_told(self):
        sounds = self.take_word()
        row = self.take_list()
        return (sounds, row)

    def take_all_told(self):
        told = []
        length = self.take()
        for word in range(length):
            told.append(self.take_told())
        return told

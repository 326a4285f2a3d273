"""Builds images for the tests, right ones and ones with chosen faults.

It checks nothing: a name, an order or a depth that the document rules out is written
down as given, and told consistently everywhere, so that one sentence alone is broken.
"""

SECTOR = 2048
MAIN = 16 * SECTOR
# Stands wherever the document says nothing, so that a look at such a byte shows.
NOISE = 0xA5


def low(number, width):
    return list(number.to_bytes(width, "little"))


def high(number, width):
    return list(number.to_bytes(width, "big"))


def both(number, width):
    return low(number, width) + high(number, width)


def record(name, place, size, flags):
    padding = [0] if len(name) % 2 == 0 else []
    length = 33 + len(name) + len(padding)
    head = [length, 0] + both(place, 4) + both(size, 4) + [NOISE] * 7
    return head + [flags, 0, 0] + both(1, 2) + [len(name)] + list(name) + padding


def record_length(name):
    return 34 + len(name) // 2 * 2


def entry(name, place, above, write):
    return [len(name), 0] + write(place, 4) + write(above, 2) + list(name) + [0] * (len(name) % 2)


class File:
    """place: where it lies; without one, it is given sectors of its own behind the folders.

    values: its bytes; without them, it has so many of those that lie there anyway.
    """

    def __init__(self, name, size=0, place=None, flags=0, values=()):
        self.name = name
        self.size = size if len(values) == 0 else len(values)
        self.values = list(values)
        self.place = place
        self.flags = flags


class Folder:
    """breaks: which of its records (its first two counted) begin a new sector, come what may."""

    def __init__(self, name, members=(), flags=2, breaks=(), link_flags=(2, 2)):
        self.name = name
        self.members = list(members)
        self.flags = flags
        self.breaks = breaks
        self.link_flags = link_flags
        self.above = self
        self.place = None
        self.offsets = self.pack()
        self.size = (self.offsets[-1] // SECTOR + 1) * SECTOR

    def pack(self):
        offsets = []
        end = 0
        for k, name in enumerate([b"\0", b"\1"] + [member.name for member in self.members]):
            length = record_length(name)
            if k in self.breaks or end % SECTOR + length > SECTOR:
                end = (end + SECTOR - 1) // SECTOR * SECTOR
            offsets.append(end)
            end += length
        return offsets

    def record_at(self, k):
        """Where its record k stands in the image: 0 itself, 1 the one it is in, 2 its first member."""
        return self.place * SECTOR + self.offsets[k]

    def end_at(self, k):
        """The byte behind its record k."""
        names = [b"\0", b"\1"] + [member.name for member in self.members]
        return self.record_at(k) + record_length(names[k])


class Alias:
    """One more name for a folder that stands in the same folder, or for that one itself."""

    def __init__(self, name, folder, flags=2):
        self.name = name
        self.folder = folder
        self.flags = flags


def real_folder(member):
    return member.folder if isinstance(member, Alias) else member


def is_file(member):
    return isinstance(member, File)


class Disc:
    def __init__(self, members=(), name=b"DISC", boots=0, spare=0, top=None, most_folders=2000):
        self.top = top if top is not None else Folder(b"\0", members)
        self.name = name
        self.boots = boots
        self.most_folders = most_folders
        self.folders = self.find_folders()
        self.instances = self.number_folders()
        self.last_descriptor = 17 + boots
        self.table_size = sum(len(entry(name, 0, 0, low)) for name, folder, above in self.instances)
        self.lower_place = self.last_descriptor + 1
        table_sectors = -(-self.table_size // SECTOR)
        self.higher_place = self.lower_place + table_sectors
        self.sectors = self.lay_out(self.higher_place + table_sectors) + spare
        self.image = self.write()

    def find_folders(self):
        folders = [self.top]
        for folder in folders:
            for member in folder.members:
                if isinstance(member, Folder):
                    member.above = folder
                    folders.append(member)
        return folders

    def number_folders(self):
        instances = [(b"\0", self.top, 1)]
        for number, (name, folder, above) in enumerate(instances, start=1):
            for member in folder.members:
                if not is_file(member) and len(instances) < self.most_folders:
                    instances.append((member.name, real_folder(member), number))
        return instances

    def lay_out(self, place):
        for folder in self.folders:
            folder.place = place
            place += folder.size // SECTOR
        for folder in self.folders:
            for member in folder.members:
                if is_file(member) and member.place is None:
                    member.place = place
                    place += -(-member.size // SECTOR)
        return place

    def write(self):
        image = [NOISE] * (self.sectors * SECTOR)
        self.write_descriptors(image)
        for folder in self.folders:
            self.write_folder(image, folder)
        for place, write in ((self.lower_place, low), (self.higher_place, high)):
            table = []
            for name, folder, above in self.instances:
                table += entry(name, folder.place, above, write)
            put(image, place * SECTOR, table)
        for folder in self.folders:
            for member in folder.members:
                if is_file(member) and len(member.values) > 0:
                    put(image, member.place * SECTOR, member.values)
        return image

    def write_descriptors(self, image):
        put(image, MAIN, [1] + list(b"CD001") + [1, 0])
        put(image, MAIN + 40, list(self.name.ljust(32)))
        put(image, MAIN + 80, both(self.sectors, 4))
        put(image, MAIN + 120, both(1, 2) + both(1, 2) + both(SECTOR, 2) + both(self.table_size, 4))
        put(image, MAIN + 140, low(self.lower_place, 4))
        put(image, MAIN + 148, high(self.higher_place, 4))
        put(image, MAIN + 156, record(b"\0", self.top.place, self.top.size, self.top.flags))
        put(image, MAIN + 881, [1])
        for sector in range(17, self.last_descriptor):
            put(image, sector * SECTOR, [0] + list(b"CD001") + [1])
        put(image, self.last_descriptor * SECTOR, [255] + list(b"CD001") + [1])

    def write_folder(self, image, folder):
        put(image, folder.place * SECTOR, [0] * folder.size)
        links = ((b"\0", folder), (b"\1", folder.above))
        for k, (name, target) in enumerate(links):
            put(image, folder.record_at(k), record(name, target.place, target.size, folder.link_flags[k]))
        for k, member in enumerate(folder.members, start=2):
            target = real_folder(member)
            put(image, folder.record_at(k), record(member.name, target.place, target.size, member.flags))

    def entry_at(self, number, place):
        """Where the entry of the folder of this number stands in the table at this place."""
        before = [entry(name, 0, 0, low) for name, folder, above in self.instances[:number - 1]]
        return place * SECTOR + sum(len(values) for values in before)


def put(image, at, values):
    """Writes into an image, and answers it; never beyond its end."""
    if at + len(values) > len(image):
        raise ValueError("outside the image")
    image[at:at + len(values)] = values
    return image


def answer(disc, folders, files):
    """What look is to answer for a right disc."""
    name = disc.name.rstrip(b" ")
    return [0, disc.sectors, folders, files] + list(name) + [0] * (32 - len(name))


def walk(folder, way=b""):
    """Everything below a folder, each with its path, in the order that list_all is to keep."""
    for member in folder.members:
        path = way + b"/" + member.name
        yield path, member
        if not is_file(member):
            yield from walk(real_folder(member), path)


def files_of(disc):
    """Each path that leads to a file, with that file."""
    return [(path, member) for path, member in walk(disc.top) if is_file(member)]


def listing(disc):
    """What list_all is to tell of a right disc, in bytes."""
    lines = [path + (b" %d\n" % member.size if is_file(member) else b"/\n") for path, member in walk(disc.top)]
    return b"".join(lines)


def bytes_of(disc, file):
    """The bytes of a file, as they lie in the image."""
    start = file.place * SECTOR
    return disc.image[start:start + file.size]


def one_folder_as(names, members=()):
    """One folder that stands under each of these names, as members of another."""
    folder = Folder(names[0], members)
    return [folder] + [Alias(name, folder) for name in names[1:]]


def file_names(count):
    """So many files' names, in order: the points last, so that all have the same length."""
    signs = "0123456789ABCDEFGHIJKLMNOPQRSTUVWXYZ_"
    names = [f"{a}{b}.;1".encode() for a in signs for b in signs]
    return names[:count]


def folder_names(count):
    signs = "0123456789ABCDEFGHIJKLMNOPQRSTUVWXYZ_"
    names = [f"{a}{b}".encode() for a in signs for b in signs]
    return names[:count]


def chain(depth, last=()):
    """A disc whose deepest folder is so deep, the top one being 1 deep."""
    members = list(last)
    for k in range(depth - 1):
        members = [Folder(b"DOWN", members)]
    return Disc(members)


def crowd(folders, files, more=()):
    """A disc with so many folders, that are one, with so many files in each."""
    crowded = one_folder_as(folder_names(folders), [File(name) for name in file_names(files)])
    return Disc(crowded + list(more))


def stacked_crowd(files):
    """A disc with 8 folders, that are one, with 23, that are one, with so many files in each."""
    inner = one_folder_as(folder_names(23), [File(name) for name in file_names(files)])
    return Disc(one_folder_as(folder_names(8), inner))

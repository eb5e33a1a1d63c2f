"""The forty small sizes, the runs they lie in, and the pages that great blocks need."""

PAGE = 4096
LEAST_MULTIPLE = 16
GREATEST_SMALL = 32768

SMALL_SIZES = (
    16, 32, 48, 64, 80, 96, 112, 128,
    160, 192, 224, 256,
    320, 384, 448, 512,
    640, 768, 896, 1024,
    1280, 1536, 1792, 2048,
    2560, 3072, 3584, 4096,
    5120, 6144, 7168, 8192,
    10240, 12288, 14336, 16384,
    20480, 24576, 28672, 32768,
)


def size_for(many, multiple):
    """The small size for so many bytes at multiples of that; None if the block is great."""
    for small in SMALL_SIZES:
        if small >= many and small % multiple == 0:
            return small
    return None


def pages_for(many):
    """How many pages so many bytes need."""
    return (many + PAGE - 1) // PAGE


def pages_of_run(small):
    """How many pages a small run has: the fewest of which at most an eighth of the bytes is left over."""
    pages = 1
    while pages * PAGE % small * 8 > pages * PAGE:
        pages += 1
    return pages


def places_of_run(small, run):
    """The places of a small run that begins at page run, from the lowest on."""
    start = run * PAGE
    many = pages_of_run(small) * PAGE // small
    return [start + turn * small for turn in range(many)]

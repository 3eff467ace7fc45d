"""A strip, its shutter and its flyers, as the document tells them; nothing here uses the package."""


def band(wide, power, far, upper):
    rows = range(far, far + power) if upper else range(-far - power + 1, -far + 1)
    return [(x, y) for x in range(wide) for y in rows]


def is_in_band(power, far, square):
    return far <= square[1] <= far + power - 1 or -far - power + 1 <= square[1] <= -far


def burn_of(sizes, burnt, square):
    """What the shutter burns, None if there is none left."""
    wide, power, far = sizes
    lots = [band(wide, power, far, square[1] >= 0), band(wide, power, far, square[1] < 0)]
    lots.append([(x, y) for x in range(wide) for y in range(-far + 1, far) if (x, y) != tuple(square)])
    for lot in lots:
        left = sorted(set(lot) - {tuple(other) for other in burnt})
        if left:
            return left[0]
    return None


def flights_of(sizes, burnt, square):
    """To where the flyer may fly."""
    wide, power, _ = sizes
    (x, y), shut = square, {tuple(other) for other in burnt}
    squares = [(x + a, y + b) for a in range(-power, power + 1) for b in range(-power, power + 1) if a or b]
    return sorted(s for s in squares if 0 <= s[0] < wide and s not in shut)


def game(sizes, column, choose, most=2000):
    """Burns, flights, and how it ends (through, caught, or on), of a flyer that chooses one of the squares it may fly to."""
    burnt, flights, square = [], [], (column, 0)
    while len(flights) < most:
        burn = burn_of(sizes, burnt, square)
        burnt.append(burn)
        shut = [s for s in burnt if s is not None]
        squares = flights_of(sizes, shut, square)
        if not squares:
            return burnt, flights, "caught"
        square = choose(square, squares, shut)
        if square is None:
            return burnt, flights, "on"
        flights.append(square)
        if is_in_band(sizes[1], sizes[2], square):
            return burnt, flights, "through"
    return burnt, flights, "on"


def straight(up):
    """A flyer that goes straight for one band, aside if it must."""
    return lambda square, squares, shut: max(squares, key=lambda s: (s[1] if up else -s[1], -abs(s[0] - square[0])))


def turning(source, sizes):
    """A flyer that turns about now and then."""
    way = [True]

    def choose(square, squares, shut):
        if source.random() < 0.2 or abs(square[1]) >= sizes[2] - 1:
            way[0] = not way[0]
        found = [s for s in squares if is_in_band(sizes[1], sizes[2], s)]
        return source.choice(found or [s for s in squares if (s[1] > square[1]) == way[0]] or squares)
    return choose


def seeking(sizes):
    """A flyer that goes for the band with most unburnt squares, and in it for the nearest of them."""
    def choose(square, squares, shut):
        lots = [[s for s in band(*sizes, upper) if s not in shut] for upper in (True, False)]
        lot = max(lots, key=lambda left: (len(left), -min([abs(s[1] - square[1]) for s in left] + [999])))
        if not lot:
            return max(squares, key=lambda s: len([t for t in flights_of(sizes, shut, s)]))
        return min(squares, key=lambda s: min(max(abs(s[0] - t[0]), abs(s[1] - t[1])) for t in lot))
    return choose


def wandering(source):
    """A flyer that goes anywhere."""
    return lambda square, squares, shut: source.choice(squares)


def staying(sizes):
    """A flyer that stays alive: it goes to where most squares round it are left."""
    def choose(square, squares, shut):
        found = [s for s in squares if is_in_band(sizes[1], sizes[2], s)]
        return max(found or squares, key=lambda s: (len(flights_of(sizes, shut, s)), -abs(s[1]), s))
    return choose

"""Two ways of watching a cache (points 9.5 to 9.8)."""


def own_address(code, settings, way, number):
    """Returns the watcher's own address for a way and a set of the data cache."""
    sets, _, line, _ = settings[0]
    end = max([base + size for base, size, _ in code[0]], default=0)
    step = sets * line
    # Rounded up, to where a line of the set 0 begins.
    first = (end + step - 1) // step * step
    return first + (way * sets + number) * line


def prime_and_probe(code, settings, n):
    """Returns the settings in which the watcher fills the data cache at first, and touches it again at a fetch."""
    data, fetch, guess, depth, costs, before, visits = settings
    sets, ways, _, _ = data
    primes = [("data", own_address(code, settings, k, j)) for k in range(ways) for j in range(sets)]
    probes = [(n, "touch", own_address(code, settings, k, j)) for k in reversed(range(ways)) for j in range(sets)]
    return (data, fetch, guess, depth, costs, before + tuple(primes), _with_visits(visits, probes))


def flush_and_reload(code, settings, region, n, m):
    """Returns the settings in which the watcher drops the lines of a region at a fetch, and touches them at another."""
    data, fetch, guess, depth, costs, before, visits = settings
    base, size, _ = code[0][region]
    line = data[2]
    addresses = [number * line for number in range(base // line, (base + size - 1) // line + 1)]
    drops = [(n, "drop", address) for address in addresses]
    touches = [(m, "touch", address) for address in addresses]
    return (data, fetch, guess, depth, costs, before, _with_visits(_with_visits(visits, drops), touches))


def _with_visits(visits, added):
    """The tuple of visits with others, which are all at one fetch, behind those that are not later."""
    n = added[0][0]
    earlier = [visit for visit in visits if visit[0] <= n]
    later = [visit for visit in visits if visit[0] > n]
    return tuple(earlier + added + later)

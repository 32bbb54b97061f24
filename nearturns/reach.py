"""What steps from web to web lead to, one behind the other."""


def reached(web, steps):
    """All webs to which steps lead the web, itself too, rising; steps(web) lists those one step away."""
    found = {web: True}
    waiting = [web]
    while waiting:
        known = waiting.pop()
        for fresh in steps(known):
            if fresh not in found:
                found[fresh] = True
                waiting.append(fresh)
    return sorted(found)

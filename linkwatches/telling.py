"""What the calls answer that only look: box, process and air."""


def box(world, p):
    return counted(world.processes[p].notes)


def process(world, p):
    looked_at = world.processes[p]
    told = [int(looked_at.living), looked_at.why, int(looked_at.traps)]
    # Links are told by whom they go to, the others in the order that their dicts keep.
    told.extend(counted(sorted(looked_at.links.items())))
    told.extend(counted(list(looked_at.watches.items())))
    told.extend(counted(list(looked_at.watchers.items())))
    return told


def air(world):
    return counted([(p, q) + signal for p, q, signal in world.signals])


def counted(rows):
    told = [len(rows)]
    for row in rows:
        told.extend(row)
    return told

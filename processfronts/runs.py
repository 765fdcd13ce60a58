"""Whether one process is a run of another one."""

from processfronts.notation import CHOICE, has_parts


# fits tells, for each part of the run that was gone through, of which constructs
# it is a run; fits_here tells it of this part and the constructs ahead.
def is_run_here(part, construct, fits, fits_here):
    kind = construct[0]
    if kind == CHOICE:
        return fits_here[construct[1]] or fits_here[construct[2]]
    if part[0] != kind:
        return False
    if has_parts(kind):
        return fits[part[1]][construct[1]] and fits[part[2]][construct[2]]
    return part == construct


# The process is one without loops. Each part of the run is held against each
# construct once: to try all choices anew wherever they occur would take long.
def is_run(run, constructs):
    fits = []
    for part in run:
        fits_here = []
        for construct in constructs:
            fits_here.append(is_run_here(part, construct, fits, fits_here))
        fits.append(fits_here)
    return fits[-1][-1]

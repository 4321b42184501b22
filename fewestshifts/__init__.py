"""A car brought by the fewest shifts: fewestshifts.hall.answers(calls) is the way in."""

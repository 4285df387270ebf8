"""A machine's memory by tables: pagedmemory.machine.answers(calls) answers a line of calls."""

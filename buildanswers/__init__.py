"""Which answers to keep: what it costs to build them, and by which plan."""

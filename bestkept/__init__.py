"""Which answers to keep: the best set."""

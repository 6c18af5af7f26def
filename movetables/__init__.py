"""Tables of states and moves for any grammar, conflicts kept."""

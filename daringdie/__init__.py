"""A die thrown as long as one dares."""

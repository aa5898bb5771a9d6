"""Where the school is put: a valley's villages, its roads, and the places to which all ways are least."""

"""patchhall, layer c: the table. The calls are in patchtable.hall."""

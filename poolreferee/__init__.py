"""Pool refereed: eight-ball and nine-ball races, told shot by shot."""

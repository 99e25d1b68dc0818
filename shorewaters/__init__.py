"""Waters opened and closed by what is read in them and by rain."""

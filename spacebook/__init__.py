"""Space book: sets of the cells of a cube of 8 by 8 by 8."""

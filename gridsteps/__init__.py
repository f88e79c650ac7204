"""Short steps in a grid: the calls are in gridsteps.desk."""

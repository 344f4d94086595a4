"""Ruled numbers: whole numbers, sums, products, quotients, square roots, told exactly."""

"""Matrices of doubles, to the bit: the calls stand in bitmatrix.desk."""

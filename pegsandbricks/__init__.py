"""Ropes: a batten on two lines, the pieces that hang from its pegs, and the bricks that hold it in the air."""

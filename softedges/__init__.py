"""How far from the edge: cells of a page are chosen, and the choice is grown, shrunk and filled."""

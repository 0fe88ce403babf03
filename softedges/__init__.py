"""How far from the edge: cells of a page are chosen, and the choice is changed, told and given a soft edge."""

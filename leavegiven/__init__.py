"""Leave given in one's name: codes, grants and tokens, and who may use them."""

"""Width and height: flat lots and chains that fit one another."""

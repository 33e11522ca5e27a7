"""The parts of an order: like lots, their tree, stretches."""

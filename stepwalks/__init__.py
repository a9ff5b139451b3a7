"""Steps up and down: walks of up to 64 steps, and what is told of them."""

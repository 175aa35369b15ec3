"""What rays tell of a stacking of layers: how many of them, so many apart, lie alike."""

"""The plant's hand: parts what a farm of sun and wind may give among those that could give more."""

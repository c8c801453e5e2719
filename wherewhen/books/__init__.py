"""Books of tellings: which row of a thing stands when."""

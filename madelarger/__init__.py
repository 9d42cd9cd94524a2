"""Made larger: points of a window, made larger by w w."""
